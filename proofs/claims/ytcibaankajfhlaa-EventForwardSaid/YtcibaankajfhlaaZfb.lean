/-
  Part of a claim: the reckoner and contracts.
-/
import Derived.Test.YtcibaankajfhlaaZfa
set_option linter.unusedVariables false
set_option linter.unusedSimpArgs false
set_option maxRecDepth 100000
section
namespace Go.Proofs.Ytcibaankajfhlaa.E2
open Go Go.RowKit
noncomputable section
mutual
def V.within (p : Nat → Bool) : V → Bool
  | .raw _ => true
  | .any _ => false
  | .ptr b _ => p b
  | .slo b _ => p b
  | .sub b _ _ _ => p b
  | .yld b => p b
  | .mp b => p b
  | .fn _ x y => withins p x && withins p y
  | .agg l => withins p l
  | .tup l => withins p l
  | .lit _ => true
def withins (p : Nat → Bool) : List V → Bool
  | [] => true
  | x :: l => x.within p && withins p l
end
def V.slotIn (p : Nat → Bool) : V → Bool
  | .any _ => true
  | v => v.within p
def Blk.within (p : Nat → Bool) : Blk → Bool
  | .cells cs _ _ => withins p cs
  | .rcd r => r.t.all (·.slotIn p)
  | .mp _ vs _ _ => withins p vs
mutual
theorem V.conc_in {ρ ρ' : Ren} {p : Nat → Bool} (h : ∀ i, p i = true → ρ'.blk i = ρ.blk i) : ∀ x : V, x.within p = true → x.conc ρ' = x.conc ρ
  | .raw v, _ => rfl
  | .any k, h => by simp [V.within] at h
  | .ptr b o, hx => by simp only [V.within] at hx; simp only [V.conc, h b hx]
  | .slo b l, hx => by simp only [V.within] at hx; simp only [V.conc, h b hx]
  | .sub b o l k, hx => by simp only [V.within] at hx; simp only [V.conc, h b hx]
  | .yld b, hx => by simp only [V.within] at hx; simp only [V.conc, h b hx]
  | .mp b, hx => by simp only [V.within] at hx; simp only [V.conc, h b hx]
  | .fn f x y, hx => by
    simp only [V.within, Bool.and_eq_true] at hx
    simp only [V.conc, concs_in h x hx.1, concs_in h y hx.2]
  | .agg l, hx => by simp only [V.within] at hx; simp only [V.conc, concs_in h l hx]
  | .tup l, hx => by simp only [V.within] at hx; simp only [V.conc, concs_in h l hx]
  | .lit b, _ => rfl
theorem concs_in {ρ ρ' : Ren} {p : Nat → Bool} (h : ∀ i, p i = true → ρ'.blk i = ρ.blk i) : ∀ l : List V, withins p l = true → concs ρ' l = concs ρ l
  | [], _ => rfl
  | x :: l, hx => by
    simp only [withins, Bool.and_eq_true] at hx
    simp only [concs, V.conc_in h x hx.1, concs_in h l hx.2]
end
mutual
theorem V.within_mono {p q : Nat → Bool} (h : ∀ i, p i = true → q i = true) : ∀ x : V, x.within p = true → x.within q = true
  | .raw v, _ => rfl
  | .any k, h => by simp [V.within] at h
  | .ptr b o, hx => h b hx
  | .slo b l, hx => h b hx
  | .sub b o l k, hx => h b hx
  | .yld b, hx => h b hx
  | .mp b, hx => h b hx
  | .fn f x y, hx => by
    simp only [V.within, Bool.and_eq_true] at *
    exact ⟨withins_mono h x hx.1, withins_mono h y hx.2⟩
  | .agg l, hx => by simp only [V.within] at *; exact withins_mono h l hx
  | .tup l, hx => by simp only [V.within] at *; exact withins_mono h l hx
  | .lit b, _ => rfl
theorem withins_mono {p q : Nat → Bool} (h : ∀ i, p i = true → q i = true) : ∀ l : List V, withins p l = true → withins q l = true
  | [], _ => rfl
  | x :: l, hx => by
    simp only [withins, Bool.and_eq_true] at *
    exact ⟨V.within_mono h x hx.1, withins_mono h l hx.2⟩
end
mutual
theorem V.within_of {n : Nat} : ∀ x : V, x.under n = true → x.within (fun b => decide (b < n)) = true
  | .raw v, _ => rfl
  | .any k, h => by simp [V.under] at h
  | .ptr b o, hx => hx
  | .slo b l, hx => hx
  | .sub b o l k, hx => hx
  | .yld b, hx => hx
  | .mp b, hx => hx
  | .fn f x y, hx => by
    simp only [V.under, V.within, Bool.and_eq_true] at *
    exact ⟨withins_of x hx.1, withins_of y hx.2⟩
  | .agg l, hx => by simp only [V.under, V.within] at *; exact withins_of l hx
  | .tup l, hx => by simp only [V.under, V.within] at *; exact withins_of l hx
  | .lit b, _ => rfl
theorem withins_of {n : Nat} : ∀ l : List V, unders n l = true → withins (fun b => decide (b < n)) l = true
  | [], _ => rfl
  | x :: l, hx => by
    simp only [unders, withins, Bool.and_eq_true] at *
    exact ⟨V.within_of x hx.1, withins_of l hx.2⟩
end
theorem V.slotIn_mono {p q : Nat → Bool} (h : ∀ i, p i = true → q i = true) (x : V) (hx : x.slotIn p = true) : x.slotIn q = true := by
  cases x <;> first | rfl | exact V.within_mono h _ hx
theorem V.slotIn_of {n : Nat} (x : V) (hx : x.slotOk n = true) : x.slotIn (fun b => decide (b < n)) = true := by
  cases x <;> first | rfl | exact V.within_of _ hx
theorem V.slotIn_conc {ρ ρ' : Ren} {p : Nat → Bool} (h : ∀ i, p i = true → ρ'.blk i = ρ.blk i) (hu : ρ'.unk = ρ.unk) (x : V) (hx : x.slotIn p = true) : x.conc ρ' = x.conc ρ := by
  cases x with
  | any k => simp only [V.conc, hu]
  | _ => exact V.conc_in h _ hx
theorem Blk.within_mono {p q : Nat → Bool} (h : ∀ i, p i = true → q i = true) (B : Blk) (hB : B.within p = true) : B.within q = true := by
  cases B with
  | cells cs ty own => exact withins_mono h _ hB
  | rcd r =>
    simp only [Blk.within, List.all_eq_true] at hB ⊢
    exact fun x hx => V.slotIn_mono h x (hB x hx)
  | mp ks vs bs k => exact withins_mono h _ hB
theorem Blk.within_of {n : Nat} (B : Blk) (hB : B.under n = true) : B.within (fun b => decide (b < n)) = true := by
  cases B with
  | cells cs ty own => exact withins_of _ hB
  | rcd r =>
    simp only [Blk.under, Blk.within, List.all_eq_true] at hB ⊢
    exact fun x hx => V.slotIn_of x (hB x hx)
  | mp ks vs bs k => exact withins_of _ hB
theorem slots_in {ρ ρ' : Ren} {p : Nat → Bool} (h : ∀ i, p i = true → ρ'.blk i = ρ.blk i) (u : Nat → Value) {l : List V} (hx : l.all (·.slotIn p) = true) : concs ⟨ρ'.blk, u⟩ l = concs ⟨ρ.blk, u⟩ l := by
  rw [concs_map, concs_map]
  exact List.map_congr_left fun x hm => V.slotIn_conc (ρ := ⟨ρ.blk, u⟩) (ρ' := ⟨ρ'.blk, u⟩) h rfl x (List.all_eq_true.1 hx x hm)
theorem BlkOk.moveIn {P : Program} {ρ ρ' : Ren} {l : Loc} {w w' : World} {B : Blk} {p : Nat → Bool} (h : BlkOk P ρ l w B) (hu : B.within p = true) (hag : ∀ i, p i = true → ρ'.blk i = ρ.blk i) (hw : l.nil = false → w'.heap[l.n]? = w.heap[l.n]?) : BlkOk P ρ' l w' B := by
  cases B with
  | cells cs ty own =>
    refine ⟨h.nil, fun hn => ?_, h.room⟩
    obtain ⟨fr, h1, h2⟩ := h.row hn
    exact ⟨fr, by rw [hw hn, h1, concs_in hag _ hu], h2⟩
  | rcd r =>
    obtain ⟨h0, fn, u, D, h1⟩ := h
    refine ⟨h0, fn, u, D, ?_⟩
    rw [hw h0, h1]
    simp only [Rec.loop]
    rw [slots_in hag u hu]
  | mp ks vs bs k => exact ⟨h.1, by rw [hw h.1, h.2, concs_in hag _ hu]⟩
def waitsN : Nat → Array Oper → Nat → Nat → Bool
  | 0, _, _, _ => false
  | d + 1, ops, j, i => match ops[j]? with
    | some o => o.after.toList.any (fun e => Region.binds .any e && (e.on == i || waitsN d ops e.on i))
    | none => false
def waitsB (ops : Array Oper) (j i : Nat) : Bool := waitsN 12 ops j i
theorem waitsN_mono : ∀ (d : Nat) (ops : Array Oper) (j i : Nat), waitsN d ops j i = true → waitsN (d + 1) ops j i = true
  | 0, _, _, _, h => by cases h
  | d + 1, ops, j, i, h => by
    unfold waitsN at h ⊢
    split at h
    · obtain ⟨e, he, hb⟩ := List.any_eq_true.1 h
      rw [Bool.and_eq_true, Bool.or_eq_true] at hb
      refine List.any_eq_true.2 ⟨e, he, ?_⟩
      rw [Bool.and_eq_true, Bool.or_eq_true]
      exact ⟨hb.1, hb.2.imp_right fun k => waitsN_mono d ops e.on i k⟩
    · cases h
theorem waitsB_edge {ops : Array Oper} {i : Nat} {o : Oper} {e : Edge} (ho : ops[i]? = some o) (he : e ∈ o.after.toList) (hb : Region.binds .any e = true) : waitsB ops i e.on = true := by
  unfold waitsB waitsN
  rw [ho]
  exact List.any_eq_true.2 ⟨e, he, by simp [hb]⟩
structure DIt where
  v : V
  m : Nat
  chg : List (Nat × Option Blk)
  nw : Heap
def DIt.key (it : DIt) (e : Nat) : Bool := it.chg.any (fun p => p.1 == e)
def putAll (l : List (Nat × Option Blk)) (H : Heap) : Heap := l.foldl (fun H p => H.set p.1 p.2) H
def effOne (it : DIt) (H : Heap) : Heap := putAll it.chg H ++ it.nw
def effNo (it : DIt) (H : Heap) : Heap := H ++ it.nw.map fun _ => none
def effs (S : Nat → Bool) : Nat → List DIt → Heap → Heap
  | _, [], H => H
  | j, it :: l, H => effs S (j + 1) l (if S j then effOne it H else effNo it H)
def dstAt (ops : Array Oper) (j : Nat) : Option Nat := (ops[j]?).bind (·.dst)
def slotsAt (ops : Array Oper) (S : Nat → Bool) : Nat → List DIt → List V → List V
  | _, [], t => t
  | j, it :: l, t => slotsAt ops S (j + 1) l (if S j then putT t (dstAt ops j) it.v else t)
theorem putAll_len (l : List (Nat × Option Blk)) : ∀ H : Heap, (putAll l H).length = H.length := by
  induction l with
  | nil => intro H; rfl
  | cons p l ih => intro H; show (putAll l (H.set p.1 p.2)).length = _; rw [ih, List.length_set]
theorem putAll_no {e : Nat} (l : List (Nat × Option Blk)) : ∀ H : Heap, l.any (fun p => p.1 == e) = false → (putAll l H)[e]? = H[e]? := by
  induction l with
  | nil => intro H _; rfl
  | cons p l ih =>
    intro H hk
    simp only [List.any_cons, Bool.or_eq_false_iff, beq_eq_false_iff_ne] at hk
    show (putAll l (H.set p.1 p.2))[e]? = _
    rw [ih _ hk.2, List.getElem?_set_ne hk.1]
theorem putAll_at {e : Nat} (l : List (Nat × Option Blk)) (X : Option Blk) : ∀ H : Heap, (∀ p ∈ l, p.1 = e → p.2 = X) → l.any (fun p => p.1 == e) = true → e < H.length → (putAll l H)[e]? = some X := by
  induction l with
  | nil => intro H _ hk; cases hk
  | cons p l ih =>
    intro H hX hk hl
    show (putAll l (H.set p.1 p.2))[e]? = _
    cases hk2 : l.any (fun p => p.1 == e) with
    | true => exact ih _ (fun q hq => hX q (List.mem_cons_of_mem _ hq)) hk2 (by rw [List.length_set]; exact hl)
    | false =>
      rw [putAll_no l _ hk2]
      simp only [List.any_cons, hk2, Bool.or_false, beq_iff_eq] at hk
      rw [hk, List.getElem?_set_self hl, hX p List.mem_cons_self hk]
theorem effNo_len (it : DIt) (H : Heap) : (effNo it H).length = H.length + it.nw.length := by simp [effNo]
theorem effOne_len (it : DIt) (H : Heap) : (effOne it H).length = H.length + it.nw.length := by simp [effOne, putAll_len]
def grown : List DIt → Nat → Nat
  | [], n => n
  | it :: l, n => grown l (n + it.nw.length)
theorem effs_len (S : Nat → Bool) : ∀ (l : List DIt) (j : Nat) (H : Heap), (effs S j l H).length = grown l H.length
  | [], j, H => rfl
  | it :: l, j, H => by
    show (effs S (j + 1) l _).length = _
    rw [effs_len S l]
    show grown l _ = grown l (H.length + it.nw.length)
    congr 1
    split
    · exact effOne_len it H
    · exact effNo_len it H
theorem grown_ge : ∀ (l : List DIt) (n : Nat), n ≤ grown l n
  | [], n => Nat.le_refl _
  | it :: l, n => Nat.le_trans (Nat.le_add_right _ _) (grown_ge l _)
theorem grown_append : ∀ (l m : List DIt) (n : Nat), grown (l ++ m) n = grown m (grown l n)
  | [], m, n => rfl
  | it :: l, m, n => grown_append l m _
theorem effs_append (S : Nat → Bool) : ∀ (l m : List DIt) (j : Nat) (H : Heap), effs S j (l ++ m) H = effs S (j + l.length) m (effs S j l H)
  | [], m, j, H => rfl
  | it :: l, m, j, H => by
    show effs S (j + 1) (l ++ m) _ = _
    rw [effs_append S l m, List.length_cons]
    rw [show j + 1 + l.length = j + (l.length + 1) by omega]
    rfl
theorem effs_congr {S T : Nat → Bool} : ∀ (l : List DIt) (j : Nat) (H : Heap), (∀ k, j ≤ k → k < j + l.length → S k = T k) → effs S j l H = effs T j l H
  | [], j, H, _ => rfl
  | it :: l, j, H, h => by
    show effs S (j + 1) l _ = effs T (j + 1) l _
    rw [h j (Nat.le_refl _) (by simp), effs_congr l (j + 1) _ fun k h1 h2 => h k (by omega) (by simp only [List.length_cons]; omega)]
theorem eff_old {S : Nat → Bool} {j e : Nat} {it : DIt} {H : Heap} (he : e < H.length) (hk : S j = true → it.key e = false) : (if S j then effOne it H else effNo it H)[e]? = H[e]? := by
  split
  · rename_i hs
    show (putAll it.chg H ++ it.nw)[e]? = _
    rw [List.getElem?_append_left (by rw [putAll_len]; exact he), putAll_no _ _ (hk hs)]
  · show (H ++ _)[e]? = _
    rw [List.getElem?_append_left he]
theorem effs_stay {S : Nat → Bool} {e : Nat} : ∀ (l : List DIt) (j : Nat) (H : Heap), e < H.length → (∀ k it, l[k]? = some it → S (j + k) = true → it.key e = false) → (effs S j l H)[e]? = H[e]?
  | [], j, H, _, _ => rfl
  | it :: l, j, H, he, hk => by
    show (effs S (j + 1) l _)[e]? = _
    rw [effs_stay l (j + 1) _ ?_ fun k it' h1 h2 => hk (k + 1) it' (by simpa using h1) (by rw [show j + (k + 1) = j + 1 + k by omega]; exact h2)]
    · exact eff_old he fun hs => hk 0 it rfl hs
    · split
      · rw [effOne_len]; omega
      · rw [effNo_len]; omega
theorem effs_same {S : Nat → Bool} {e : Nat} : ∀ (l : List DIt) (j : Nat) (H H' : Heap), H.length = H'.length → H[e]? = H'[e]? → (effs S j l H)[e]? = (effs S j l H')[e]?
  | [], j, H, H', _, he => he
  | it :: l, j, H, H', hl, he => by
    show (effs S (j + 1) l _)[e]? = (effs S (j + 1) l _)[e]?
    refine effs_same l (j + 1) _ _ ?_ ?_
    · split
      · rw [effOne_len, effOne_len, hl]
      · rw [effNo_len, effNo_len, hl]
    · have gen : ∀ (q : List (Nat × Option Blk)) (A B : Heap), A.length = B.length → A[e]? = B[e]? → (putAll q A)[e]? = (putAll q B)[e]? := by
        intro q
        induction q with
        | nil => intro A B _ h; exact h
        | cons p q ih =>
          intro A B hl h
          refine ih _ _ (by simp [hl]) ?_
          rw [List.getElem?_set, List.getElem?_set, hl, h]
      rcases Nat.lt_or_ge e H.length with hlt | hge
      · split
        · show (putAll _ _ ++ _)[e]? = (putAll _ _ ++ _)[e]?
          rw [List.getElem?_append_left (by rw [putAll_len]; exact hlt), List.getElem?_append_left (by rw [putAll_len]; omega)]
          exact gen _ _ _ hl he
        · show (H ++ _)[e]? = (H' ++ _)[e]?
          rw [List.getElem?_append_left hlt, List.getElem?_append_left (by omega)]
          exact he
      · split
        · show (putAll _ _ ++ _)[e]? = (putAll _ _ ++ _)[e]?
          rw [List.getElem?_append_right (by rw [putAll_len]; exact hge), List.getElem?_append_right (by rw [putAll_len]; omega), putAll_len, putAll_len, hl]
        · show (H ++ _)[e]? = (H' ++ _)[e]?
          rw [List.getElem?_append_right hge, List.getElem?_append_right (by omega), hl]
def le? (x y : Option (Option Blk)) : Prop := x = y ∨ x = none ∨ x = some none
theorem effs_less {W S : Nat → Bool} {e : Nat} : ∀ (l : List DIt) (j : Nat) (H H' : Heap), H.length = H'.length → le? H[e]? H'[e]? → (∀ k, W k = true → S k = true) → (∀ k it, l[k]? = some it → it.key e = true → (∀ p ∈ it.chg, ∀ q ∈ it.chg, p.1 = e → q.1 = e → p.2 = q.2) ∧ W (j + k) = S (j + k)) →
    le? (effs W j l H)[e]? (effs S j l H')[e]?
  | [], j, H, H', _, he, _, _ => he
  | it :: l, j, H, H', hl, he, hWS, hk => by
    show le? (effs W (j + 1) l _)[e]? (effs S (j + 1) l _)[e]?
    refine effs_less l (j + 1) _ _ ?_ ?_ hWS fun k it' h1 h2 => by rw [show j + 1 + k = j + (k + 1) by omega]; exact hk (k + 1) it' (by simpa using h1) h2
    · split <;> split <;> simp only [effOne_len, effNo_len, hl]
    · rcases Nat.lt_or_ge e H.length with hlt | hge
      · cases hkey : it.key e with
        | false => rw [eff_old hlt fun _ => hkey, eff_old (by omega) fun _ => hkey]; exact he
        | true =>
          obtain ⟨h1, h2⟩ := hk 0 it rfl hkey
          rw [Nat.add_zero] at h2
          rw [h2]
          cases hS : S j with
          | false =>
            simp only [Bool.false_eq_true, if_false]
            show le? (H ++ _)[e]? (H' ++ _)[e]?
            rw [List.getElem?_append_left hlt, List.getElem?_append_left (by omega)]
            exact he
          | true =>
            simp only [if_true]
            left
            show (putAll _ _ ++ _)[e]? = (putAll _ _ ++ _)[e]?
            rw [List.getElem?_append_left (by rw [putAll_len]; exact hlt), List.getElem?_append_left (by rw [putAll_len]; omega)]
            obtain ⟨p, hp, hpe⟩ := List.any_eq_true.1 hkey
            rw [beq_iff_eq] at hpe
            rw [putAll_at it.chg p.2 H (fun q hq hqe => h1 q hq p hp hqe hpe) hkey hlt, putAll_at it.chg p.2 H' (fun q hq hqe => h1 q hq p hp hqe hpe) hkey (by omega)]
      · have e1 : (effNo it H)[e]? = none ∨ (effNo it H)[e]? = some none := by
          show (H ++ _)[e]? = none ∨ (H ++ _)[e]? = some none
          rw [List.getElem?_append_right hge, List.getElem?_map]
          cases it.nw[e - H.length]? <;> simp
        split
        · rename_i hw
          rw [hWS j hw]
          simp only [if_true]
          left
          show (putAll _ _ ++ _)[e]? = (putAll _ _ ++ _)[e]?
          rw [List.getElem?_append_right (by rw [putAll_len]; exact hge), List.getElem?_append_right (by rw [putAll_len]; omega), putAll_len, putAll_len, hl]
        · exact .inr e1
theorem effs_from {S : Nat → Bool} {e : Nat} {B : Blk} : ∀ (l : List DIt) (j : Nat) (H : Heap), (effs S j l H)[e]? = some (some B) → H[e]? = some (some B) ∨ ∃ k it, l[k]? = some it ∧ S (j + k) = true ∧ ((e, some B) ∈ it.chg ∨ some B ∈ it.nw)
  | [], j, H, h => .inl h
  | it :: l, j, H, h => by
    rcases effs_from l (j + 1) _ h with h1 | ⟨k, it', h1, h2, h3⟩
    · split at h1
      · rename_i hs
        rcases Nat.lt_or_ge e H.length with hlt | hge
        · rw [show effOne it H = putAll it.chg H ++ it.nw from rfl, List.getElem?_append_left (by rw [putAll_len]; exact hlt)] at h1
          have gen : ∀ (q : List (Nat × Option Blk)) (A : Heap), (putAll q A)[e]? = some (some B) → A[e]? = some (some B) ∨ (e, some B) ∈ q := by
            intro q
            induction q with
            | nil => intro A h; exact .inl h
            | cons p q ih =>
              intro A h
              rcases ih _ h with h1 | h1
              · rcases get_set h1 with ⟨h2, h3⟩ | ⟨_, h2⟩
                · refine .inr (List.mem_cons.2 (.inl ?_))
                  rw [h2, ← h3]
                · exact .inl h2
              · exact .inr (List.mem_cons_of_mem _ h1)
          rcases gen _ _ h1 with h2 | h2
          · exact .inl h2
          · exact .inr ⟨0, it, rfl, hs, .inl h2⟩
        · rw [show effOne it H = putAll it.chg H ++ it.nw from rfl, List.getElem?_append_right (by rw [putAll_len]; exact hge)] at h1
          exact .inr ⟨0, it, rfl, hs, .inr (List.mem_of_getElem? h1)⟩
      · rcases Nat.lt_or_ge e H.length with hlt | hge
        · rw [show effNo it H = H ++ _ from rfl, List.getElem?_append_left hlt] at h1
          exact .inl h1
        · rw [show effNo it H = H ++ _ from rfl, List.getElem?_append_right hge, List.getElem?_map] at h1
          cases hx : it.nw[e - H.length]? with
          | none => rw [hx] at h1; cases h1
          | some x => rw [hx] at h1; cases h1
    · exact .inr ⟨k + 1, it', by simpa using h1, by rw [show j + (k + 1) = j + 1 + k by omega]; exact h2, h3⟩
theorem putT_len {t : List V} {d : Option Nat} {v : V} : (putT t d v).length = t.length := by
  cases d <;> simp [putT, setR_eq]
theorem putT_other {t : List V} {d : Option Nat} {v : V} {s : Nat} (h : d ≠ some s) : (putT t d v)[s]? = t[s]? := by
  cases d with
  | none => rfl
  | some d =>
    show (setR t d v)[s]? = _
    rw [setR_eq]
    exact List.getElem?_set_ne (fun e => h (by rw [e]))
theorem slotsAt_len {ops : Array Oper} {S : Nat → Bool} : ∀ (l : List DIt) (j : Nat) (t : List V), (slotsAt ops S j l t).length = t.length
  | [], j, t => rfl
  | it :: l, j, t => by
    show (slotsAt ops S (j + 1) l _).length = _
    rw [slotsAt_len l]
    split
    · exact putT_len
    · rfl
theorem slotsAt_un {ops : Array Oper} {S : Nat → Bool} {s : Nat} : ∀ (l : List DIt) (j : Nat) (t : List V), (∀ k, k < l.length → S (j + k) = true → dstAt ops (j + k) ≠ some s) → (slotsAt ops S j l t)[s]? = t[s]?
  | [], j, t, _ => rfl
  | it :: l, j, t, h => by
    show (slotsAt ops S (j + 1) l _)[s]? = _
    rw [slotsAt_un l (j + 1) _ fun k hk hs => by have := h (k + 1) (by simp only [List.length_cons]; omega); rw [show j + (k + 1) = j + 1 + k by omega] at this; exact this hs]
    split
    · rename_i hs
      exact putT_other (h 0 (by simp) hs)
    · rfl
theorem slotsAt_at {ops : Array Oper} {S : Nat → Bool} {s : Nat} (once : ∀ i j, dstAt ops i = some s → dstAt ops j = some s → i = j) : ∀ (l : List DIt) (j : Nat) (t : List V) (k : Nat) (it : DIt), l[k]? = some it → S (j + k) = true → dstAt ops (j + k) = some s → s < t.length →
    (slotsAt ops S j l t)[s]? = some it.v
  | [], j, t, k, it, h, _, _, _ => by simp at h
  | x :: l, j, t, 0, it, h, hs, hd, hl => by
    simp only [List.getElem?_cons_zero, Option.some.injEq] at h
    subst h
    rw [Nat.add_zero] at hs hd
    show (slotsAt ops S (j + 1) l _)[s]? = _
    rw [slotsAt_un l (j + 1) _ fun k hk _ hd' => by have := once _ _ hd hd'; omega]
    rw [if_pos hs, hd]
    show (setR t s x.v)[s]? = _
    rw [setR_eq]
    exact List.getElem?_set_self hl
  | x :: l, j, t, k + 1, it, h, hs, hd, hl => by
    show (slotsAt ops S (j + 1) l _)[s]? = _
    refine slotsAt_at once l (j + 1) _ k it (by simpa using h) (by rw [show j + 1 + k = j + (k + 1) by omega]; exact hs) (by rw [show j + 1 + k = j + (k + 1) by omega]; exact hd) ?_
    split
    · rw [putT_len]; exact hl
    · exact hl
end
end Go.Proofs.Ytcibaankajfhlaa.E2
end
section
namespace Go.Proofs.Ytcibaankajfhlaa.E2
open Go Go.RowKit
noncomputable section
def mapI {α β : Type} (f : Nat → α → β) (l : List α) : List β := @List.rec α (fun _ => Nat → List β) (fun _ => []) (fun x _ ih i => f i x :: ih (i + 1)) l 0
def mapJ {α β : Type} (f : Nat → α → β) (l : List α) (j : Nat) : List β := @List.rec α (fun _ => Nat → List β) (fun _ => []) (fun x _ ih i => f i x :: ih (i + 1)) l j
theorem mapJ_get {α β : Type} (f : Nat → α → β) : ∀ (l : List α) (j i : Nat), (mapJ f l j)[i]? = (l[i]?).map (f (j + i))
  | [], j, i => by simp [mapJ]
  | x :: l, j, 0 => rfl
  | x :: l, j, i + 1 => by
    show (mapJ f l (j + 1))[i]? = _
    rw [mapJ_get f l (j + 1) i, List.getElem?_cons_succ, show j + 1 + i = j + (i + 1) by omega]
theorem mapI_get {α β : Type} (f : Nat → α → β) (l : List α) (i : Nat) : (mapI f l)[i]? = (l[i]?).map (f i) := by
  have := mapJ_get f l 0 i
  rwa [Nat.zero_add] at this
theorem mapJ_len {α β : Type} (f : Nat → α → β) : ∀ (l : List α) (j : Nat), (mapJ f l j).length = l.length
  | [], j => rfl
  | x :: l, j => congrArg (· + 1) (mapJ_len f l (j + 1))
theorem mapI_len {α β : Type} (f : Nat → α → β) (l : List α) : (mapI f l).length = l.length := mapJ_len f l 0
def hideT (ops : Array Oper) (t : List V) : List V := (fun f => mapI f t) fun s v => match v with
  | .any _ => .any s
  | v => if ops.toList.any (fun o => o.dst == some s) then .any s else v
def seeT (ops : Array Oper) (its : List DIt) (T0 : List V) (o : Oper) : List V := o.after.toList.foldl (fun T e => if Region.binds .any e then (match dstAt ops e.on, its[e.on]? with
  | some d, some it => setR T d it.v
  | _, _ => T) else T) T0
abbrev Olds := List (Nat × Nat × Bool)
def roB : Option Blk → Option Blk
  | some (.cells cs ty _) => some (.cells cs ty .ro)
  | _ => none
def seeB (L : Nat) (ops : Array Oper) (olds : Olds) (i b : Nat) (X : Option Blk) : Option Blk :=
  if b < L then X else if olds.any (fun p => p.2.1 == b && p.1 != i && !waitsB ops i p.1 && !waitsB ops p.1 i) then none else if olds.any (fun p => p.1 == i && p.2.1 == b) then X else roB X
def seeH (L : Nat) (ops : Array Oper) (olds : Olds) (its : List DIt) (i : Nat) (h : Heap) : Heap := mapI (fun b X => seeB L ops olds i b X) (effs (waitsB ops i) 0 its h)
def okN (ops : Array Oper) (its : List DIt) (n0 i m M b : Nat) : Bool := decide (b < n0) || (decide (m ≤ b) && decide (b < M)) || (List.range i).any fun k => waitsB ops i k && match its[k]? with
  | some it => decide (it.m ≤ b) && decide (b < it.m + it.nw.length)
  | none => false
def isRawV : V → Bool
  | .raw _ => true
  | .lit _ => true
  | _ => false
def okB (p : Nat → Bool) (opq : Bool) : Option Blk → Option (List Prop)
  | none => some []
  | some (.cells cs _ _) => if opq then some [cs.all isRawV = true] else if withins p cs then some [] else none
  | some B => if B.within p then some [] else none
def okBs (p : Nat → Bool) : List (Bool × Option Blk) → Option (List Prop)
  | [] => some []
  | (q, X) :: l => match okB p q X, okBs p l with
    | some a, some b => some (a ++ b)
    | _, _ => none
def liveB (X : Option (Option Blk)) : Bool := match X with
  | some (some _) => true
  | _ => false
def tmpsOf (o : Oper) : List Nat := o.op.operands.toList.filterMap fun x => match x with
  | .tmp s => some s
  | _ => none
def ownT (ops : Array Oper) (i s : Nat) : Bool := (List.range ops.size).all fun j => dstAt ops j != some s || j == i || waitsB ops j i
def revs (ops : Array Oper) (its : List DIt) (T0 : List V × List V) (i : Nat) (o : Oper) : List (Nat × V) := (tmpsOf o).filterMap fun s => match getR (seeT ops its T0.1 o) s with
  | some (.any _) => match getR T0.2 s with
    | some (.any _) => none
    | some v => match ownT ops i s with
      | true => some (s, v)
      | false => none
    | none => none
  | _ => none
def setAll (l : List (Nat × V)) (T : List V) : List V := l.foldl (fun T p => setR T p.1 p.2) T
def evDo (c : Cfg) (cf : CF) (lim : Nat) (ops : Array Oper) (olds : Olds) (h : Heap) (T0 : List V × List V) (i : Nat) (its : List DIt) (m : Nat) (ans : List Ans) (o : Oper) : Option (DIt × List Ans × List Prop) :=
  match pureOp o.op && !(olds.any fun p => p.1 == i) with
  | true => match (match evOp c cf lim (seeT ops its T0.1 o) [] ans o with
      | some r => some r
      | none => match revs ops its T0 i o with
        | [] => none
        | l => evOp c cf lim (setAll l (seeT ops its T0.1 o)) [] ans o) with
    | none => none
    | some r => match r.v.within (okN ops its h.length i m m) with
      | true => some (⟨r.v, m, [], []⟩, r.ans, r.cons)
      | false => none
  | false =>
  match (match evOpW c cf lim (seeT ops its T0.1 o) (seeH c.L ops olds its i h) ans o with
    | some r => some r
    | none => match revs ops its T0 i o with
      | [] => none
      | l => evOpW c cf lim (setAll l (seeT ops its T0.1 o)) (seeH c.L ops olds its i h) ans o) with
  | none => none
  | some r =>
    if m ≤ r.h.length ∧ r.v.within (okN ops its h.length i m r.h.length) = true ∧ ((olds.filter (fun p => p.1 == i && decide (c.L ≤ p.2.1) && decide (p.2.1 < m))).all fun p => liveB (seeH c.L ops olds its i h)[p.2.1]?) = true ∧ (r.h.drop m).all wrB = true then
      match okBs (okN ops its h.length i m r.h.length) (((olds.filter (fun p => p.1 == i && decide (c.L ≤ p.2.1) && decide (p.2.1 < m))).map fun p => (p.2.2, (r.h[p.2.1]?).join)) ++ mapI (fun q X => (olds.any (fun p => p.1 == i && p.2.1 == m + q && p.2.2), X)) (r.h.drop m)) with
      | some cons => some (⟨r.v, m, (olds.filter (fun p => p.1 == i && decide (c.L ≤ p.2.1) && decide (p.2.1 < m))).map (fun p => (p.2.1, (r.h[p.2.1]?).join)), r.h.drop m⟩, r.ans, r.cons ++ cons)
      | none => none
    else none
def evD1 (c : Cfg) (cf : CF) (lim : Nat) (ops : Array Oper) (olds : Olds) (h : Heap) (T0 : List V × List V) (i : Nat) (its : List DIt) (m : Nat) (ans : List Ans) (o : Oper) : Option (DIt × List Ans × List Prop) :=
  match o.guard with
  | none => evDo c cf lim ops olds h T0 i its m ans o
  | some (j, want) => if waitsB ops i j && (dstAt ops j).isSome then match its[j]? with
      | some it => match it.v with
        | .raw (.bool b) => match askB b ans with
          | some (q, ans', cons) => if q == want then match evDo c cf lim ops olds h T0 i its m ans' o with
              | some (d, a, cs) => some (d, a, cons ++ cs)
              | none => none
            else some (⟨.raw undef, m, [], []⟩, ans', cons)
          | none => none
        | .raw (.tuple _) => some (⟨.raw undef, m, [], []⟩, ans, [])
        | _ => none
      | none => none
    else none
structure DROut where
  its : List DIt
  ans : List Ans
  cons : List Prop
def evD (c : Cfg) (cf : CF) (lim : Nat) (ops : Array Oper) (olds : Olds) (h : Heap) (T0 : List V × List V) : Nat → List DIt → Nat → List Oper → List Ans → Option DROut
  | _, its, _, [], ans => some ⟨its, ans, []⟩
  | i, its, m, o :: rest, ans => match evD1 c cf lim ops olds h T0 i its m ans o with
    | none => none
    | some (d, ans', cons) => match evD c cf lim ops olds h T0 (i + 1) (its ++ [d]) (m + d.nw.length) rest ans' with
      | none => none
      | some r => some { r with cons := cons ++ r.cons }
def shapeB (ops : Array Oper) (n : Nat) (olds : Olds) : Bool :=
  ((List.range ops.size).all fun i => match ops[i]? with
    | some o => (o.after.all fun e => !Region.binds .any e || decide (e.on < i)) && (match o.dst with
        | some d => decide (d < n)
        | none => true) && ((List.range ops.size).all fun j => i == j || match ops[j]? with
        | some p => o.dst.isNone || o.dst != p.dst
        | none => true)
    | none => true) && (olds.all fun p => olds.all fun q => !(p.2.1 == q.2.1 && decide (p.1 < q.1)) || waitsB ops q.1 p.1)
def anyV (l : List V) : Bool := @List.rec V (fun _ => Bool) false (fun x _ ih => match x with
  | .any _ => true
  | _ => ih) l
def hideF (l : List Oper) (t : List V) : List V := l.foldl (fun T o => match o.dst with
  | some d => setR T d (.any d)
  | none => T) t
def hideQ (ops : Array Oper) (t : List V) : List V := match anyV t with
  | true => hideT ops t
  | false => hideF ops.toList t
def shapeL (n : Nat) : List Oper → Nat → List Nat → Bool
  | [], _, _ => true
  | o :: l, i, ds => match o.after.toList.all fun e => !Region.binds .any e || Nat.blt e.on i with
    | false => false
    | true => match o.dst with
      | none => shapeL n l (i + 1) ds
      | some d => match Nat.blt d n with
        | false => false
        | true => match ds.any fun x => Nat.beq x d with
          | true => false
          | false => shapeL n l (i + 1) (d :: ds)
def shapeQ (ops : Array Oper) (n : Nat) (olds : Olds) : Bool := shapeL n ops.toList 0 [] &&
  (olds.all fun p => olds.all fun q => !(p.2.1 == q.2.1 && decide (p.1 < q.1)) || waitsB ops q.1 p.1)
theorem anyV_ok : ∀ l : List V, anyV l = false → ∀ x ∈ l, ∀ k, x ≠ .any k
  | [], _, x, hx, k => by cases hx
  | y :: l, h, x, hx, k => by
    have h2 : anyV l = false ∧ ∀ k, y ≠ .any k := by
      cases y <;> first | exact ⟨h, fun k e => by cases e⟩ | (exfalso; exact absurd h (by simp [anyV]))
    rcases List.mem_cons.1 hx with rfl | hx
    · exact h2.2 k
    · exact anyV_ok l h2.1 x hx k
theorem hideF_get : ∀ (l : List Oper) (t : List V) (s : Nat), (hideF l t)[s]? = (t[s]?).map fun v => if l.any (fun o => o.dst == some s) then .any s else v
  | [], t, s => by simp [hideF]
  | o :: l, t, s => by
    show (hideF l (match o.dst with
      | some d => setR t d (.any d)
      | none => t))[s]? = _
    rw [hideF_get l]
    cases hd : o.dst with
    | none => simp [hd]
    | some d =>
      simp only [setR_eq, List.any_cons, hd]
      rcases Nat.decEq d s with hne | rfl
      · have e1 : (some d == some s) = false := by simpa using hne
        rw [List.getElem?_set_ne hne, e1, Bool.false_or]
      · rcases Nat.lt_or_ge d t.length with hlt | hge
        · rw [List.getElem?_set_self hlt, List.getElem?_eq_getElem hlt]
          simp
        · rw [List.getElem?_eq_none (by rw [List.length_set]; exact hge), List.getElem?_eq_none hge]
          rfl
theorem hideQ_eq (ops : Array Oper) (t : List V) : hideQ ops t = hideT ops t := by
  unfold hideQ
  split
  · rfl
  · rename_i hn
    apply List.ext_getElem?
    intro s
    unfold hideT
    rw [hideF_get, mapI_get]
    cases hv : t[s]? with
    | none => rfl
    | some v =>
      have := anyV_ok t hn v (List.mem_of_getElem? hv)
      simp only [Option.map_some, Option.some.injEq]
      first | done | (cases v <;> first | rfl | (exfalso; exact this _ rfl))
theorem shapeL_ok {n : Nat} {ops : Array Oper} : ∀ (l : List Oper) (i : Nat) (ds : List Nat), shapeL n l i ds = true → (∀ k, l[k]? = ops[i + k]?) →
    (∀ k o, l[k]? = some o → (∀ e ∈ o.after, Region.binds .any e = true → e.on < i + k) ∧ (∀ d, o.dst = some d → d < n ∧ ∀ x ∈ ds, x ≠ d) ∧ ∀ j p, k < j → l[j]? = some p → ∀ d, o.dst = some d → p.dst ≠ some d)
  | [], i, ds, _, _, k, o, hk => by simp at hk
  | x :: l, i, ds, h, hl, k, o, hk => by
    simp only [shapeL] at h
    split at h
    · cases h
    · rename_i ha
      have hl' : ∀ k, l[k]? = ops[i + 1 + k]? := fun k => by have := hl (k + 1); rw [List.getElem?_cons_succ] at this; rw [this]; congr 1; omega
      have hea : ∀ e ∈ x.after, Region.binds .any e = true → e.on < i := fun e he hb => by
        have := List.all_eq_true.1 ha e (Array.mem_toList_iff.2 he)
        rw [hb] at this
        simpa using this
      have rest : ∃ ds', (∀ y ∈ ds, y ∈ ds') ∧ (∀ d, x.dst = some d → d ∈ ds' ∧ d < n ∧ ∀ y ∈ ds, y ≠ d) ∧ shapeL n l (i + 1) ds' = true := by
        split at h
        · rename_i hd
          exact ⟨ds, fun y hy => hy, fun d hd' => (by rw [hd] at hd'; cases hd'), h⟩
        · rename_i d hd
          split at h
          · cases h
          · rename_i hlt
            split at h
            · cases h
            · rename_i hno
              refine ⟨d :: ds, fun y hy => List.mem_cons_of_mem _ hy, fun d' hd' => ?_, h⟩
              rw [hd] at hd'
              cases hd'
              refine ⟨List.mem_cons_self, by simpa using hlt, fun y hy e => ?_⟩
              have := List.any_eq_false.1 hno y hy
              subst e
              simp at this
      obtain ⟨ds', s1, s2, s3⟩ := rest
      have ih := shapeL_ok l (i + 1) ds' s3 hl'
      cases k with
      | zero =>
        simp only [List.getElem?_cons_zero, Option.some.injEq] at hk
        subst hk
        refine ⟨hea, fun d hd => ⟨(s2 d hd).2.1, (s2 d hd).2.2⟩, fun j p hj hp d hd hpd => ?_⟩
        obtain ⟨j', rfl⟩ : ∃ j', j = j' + 1 := ⟨j - 1, by omega⟩
        rw [List.getElem?_cons_succ] at hp
        exact ((ih j' p hp).2.1 d hpd).2 d (s2 d hd).1 rfl
      | succ k =>
        rw [List.getElem?_cons_succ] at hk
        obtain ⟨h1, h2, h3⟩ := ih k o hk
        refine ⟨fun e he hb => by have := h1 e he hb; omega, fun d hd => ⟨(h2 d hd).1, fun y hy => (h2 d hd).2 y (s1 y hy)⟩, fun j p hj hp d hd => ?_⟩
        obtain ⟨j', rfl⟩ : ∃ j', j = j' + 1 := ⟨j - 1, by omega⟩
        rw [List.getElem?_cons_succ] at hp
        exact h3 j' p (by omega) hp d hd
theorem shapeQ_ok {ops : Array Oper} {n : Nat} {olds : Olds} (h : shapeQ ops n olds = true) : shapeB ops n olds = true := by
  unfold shapeQ at h
  rw [Bool.and_eq_true] at h
  have H := shapeL_ok (ops := ops) ops.toList 0 [] h.1 fun k => by simp
  unfold shapeB
  rw [Bool.and_eq_true]
  refine ⟨List.all_eq_true.2 fun i hi => ?_, h.2⟩
  cases ho : ops[i]? with
  | none => rfl
  | some o =>
    have hk : ops.toList[i]? = some o := by rw [Array.getElem?_toList]; exact ho
    obtain ⟨h1, h2, h3⟩ := H i o hk
    simp only [Bool.and_eq_true]
    refine ⟨⟨?_, ?_⟩, List.all_eq_true.2 fun j hj => ?_⟩
    · rw [Array.all_eq_true']
      intro e he
      cases hb : Region.binds .any e with
      | false => simp
      | true => have := h1 e he hb; simp; omega
    · cases hd : o.dst with
      | none => rfl
      | some d => simpa using (h2 d hd).1
    · cases hp : ops[j]? with
      | none => simp
      | some p =>
        have hpk : ops.toList[j]? = some p := by rw [Array.getElem?_toList]; exact hp
        have fin : ∀ (A B : Option Nat), (∀ d, A = some d → B ≠ some d) → (A.isNone || A != B) = true := fun A B hAB => by
          cases A with
          | none => rfl
          | some d =>
            simp only [Option.isNone_some, Bool.false_or, bne_iff_ne, ne_eq]
            exact fun e => hAB d rfl e.symm
        rw [Bool.or_eq_true]
        rcases Nat.lt_trichotomy i j with hij | hij | hij
        · exact .inr (fin _ _ fun d hd => h3 j p hij hpk d hd)
        · exact .inl (by simpa using hij)
        · exact .inr (fin _ _ fun d hd hpd => (H j p hpk).2.2 i o hij hk d hpd hd)
def oldsOf (ans : List Ans) : Option (List (Nat × Nat) × List Ans) := match ans with
  | .olds o :: a => some (o, a)
  | .auto (o :: q) cs :: a => some (o, .auto q cs :: a)
  | .auto [] cs :: a => some ([], .auto [] cs :: a)
  | _ => none
def evDrawn (c : Cfg) (cf : CF) (lim : Nat) (ops : Array Oper) (t : List V) (h : Heap) (ans : List Ans) : Option ROut :=
  match oldsOf ans with
  | some (olds, ans) => if shapeQ ops t.length (olds.map fun p => (p.1, p.2 / 2, p.2 % 2 == 1)) = true then match evD c cf lim ops (olds.map fun p => (p.1, p.2 / 2, p.2 % 2 == 1)) h (hideQ ops t, t) 0 [] h.length ops.toList ans with
    | some d => some ⟨slotsAt ops (fun _ => true) 0 d.its t, effs (fun _ => true) 0 d.its h, d.ans, d.cons⟩
    | none => none
    else none
  | _ => none
def skipB (x : Value) (want : Bool) : Prop := (∃ b, x = .bool b ∧ (b == want) = false) ∨ ∃ l, x = .tuple l
structure ItOk (c : Cfg) (cf : CF) (lim : Nat) (ops : Array Oper) (olds : Olds) (h : Heap) (T0 : List V × List V) (D : List DIt) (i : Nat) (o : Oper) (it : DIt) : Prop where
  m : it.m = grown (D.take i) h.length
  keys : ∀ p ∈ it.chg, c.L ≤ p.1 ∧ p.1 < it.m ∧ (∃ q, (i, p.1, q) ∈ olds) ∧ liveB (seeH c.L ops olds (D.take i) i h)[p.1]? = true
  fn : ∀ p ∈ it.chg, ∀ q ∈ it.chg, p.1 = q.1 → p.2 = q.2
  val : it.v.within (okN ops (D.take i) h.length i it.m (it.m + it.nw.length)) = true
  turned : ∀ p ∈ it.chg, ∀ B, p.2 = some B → B.within (okN ops (D.take i) h.length i it.m (it.m + it.nw.length)) = true
  news : ∀ B, some B ∈ it.nw → B.within (okN ops (D.take i) h.length i it.m (it.m + it.nw.length)) = true ∧ B.wr = true
  run : (∃ T ans r, (T = seeT ops (D.take i) T0.1 o ∨ T = setAll (revs ops (D.take i) T0 i o) (seeT ops (D.take i) T0.1 o)) ∧ evOpW c cf lim T (seeH c.L ops olds (D.take i) i h) ans o = some r ∧ (∀ p ∈ r.cons, p) ∧ it.v = r.v ∧ it.nw = r.h.drop it.m ∧ it.m ≤ r.h.length ∧ (∀ p ∈ it.chg, p.2 = (r.h[p.1]?).join) ∧ (∀ e q, (i, e, q) ∈ olds → c.L ≤ e → e < it.m → it.key e = true) ∧
      (o.guard = none ∨ ∃ j want jt b, o.guard = some (j, want) ∧ waitsB ops i j = true ∧ (dstAt ops j).isSome = true ∧ (D.take i)[j]? = some jt ∧ jt.v = .raw (.bool b) ∧ (b == want) = true)) ∨
    (it.v = .raw undef ∧ it.chg = [] ∧ it.nw = [] ∧ ∃ j want jt x, o.guard = some (j, want) ∧ waitsB ops i j = true ∧ (dstAt ops j).isSome = true ∧ (D.take i)[j]? = some jt ∧ jt.v = .raw x ∧ skipB x want)
theorem okBs_ok {p : Nat → Bool} : ∀ (l : List (Bool × Option Blk)) (cons : List Prop), okBs p l = some cons → (∀ q ∈ cons, q) → ∀ x ∈ l, ∀ B, x.2 = some B → B.within p = true
  | [], cons, h, hc, x, hx, B, hB => by cases hx
  | (q, X) :: l, cons, h, hc, x, hx, B, hB => by
    simp only [okBs] at h
    split at h
    · rename_i a b ha hb
      simp only [Option.some.injEq] at h
      subst h
      rcases List.mem_cons.1 hx with rfl | hx
      · simp only at hB
        subst hB
        cases B with
        | cells cs ty own =>
          simp only [okB] at ha
          split at ha
          · simp only [Option.some.injEq] at ha
            subst ha
            have h1 : cs.all isRawV = true := hc _ (List.mem_append_left _ (List.mem_singleton.2 rfl))
            have key : ∀ l : List V, l.all isRawV = true → withins p l = true := by
              intro l
              induction l with
              | nil => intro _; rfl
              | cons v l ih =>
                intro hl
                simp only [List.all_cons, Bool.and_eq_true] at hl
                simp only [withins, Bool.and_eq_true]
                exact ⟨by cases v <;> first | rfl | simp [isRawV] at hl, ih hl.2⟩
            exact key cs h1
          · split at ha
            · rename_i h2; exact h2
            · cases ha
        | rcd r =>
          simp only [okB] at ha
          split at ha
          · rename_i h2; exact h2
          · cases ha
        | mp ks vs bs k =>
          simp only [okB] at ha
          split at ha
          · rename_i h2; exact h2
          · cases ha
      · exact okBs_ok l b hb (fun q hq => hc q (List.mem_append_right _ hq)) x hx B hB
    · cases h
section
variable {c : Cfg} {cf : CF} {lim : Nat} {ops : Array Oper} {olds : Olds} {h : Heap} {T0 : List V × List V}
theorem evDo_ok {i m : Nat} {its : List DIt} {D : List DIt} (hD : D.take i = its) (hm : m = grown its h.length) {ans ans' : List Ans} {o : Oper} {d : DIt} {cons : List Prop} (he : evDo c cf lim ops olds h T0 i its m ans o = some (d, ans', cons)) (hc : ∀ p ∈ cons, p)
    (hg : o.guard = none ∨ ∃ j want jt b, o.guard = some (j, want) ∧ waitsB ops i j = true ∧ (dstAt ops j).isSome = true ∧ its[j]? = some jt ∧ jt.v = .raw (.bool b) ∧ (b == want) = true) : d.m = m ∧ ItOk c cf lim ops olds h T0 D i o d := by
  unfold evDo at he
  split at he
  · rename_i hpure
    rw [Bool.and_eq_true, Bool.not_eq_true'] at hpure
    obtain ⟨hpure, hno⟩ := hpure
    have hno' : ∀ e q, (i, e, q) ∈ olds → False := fun e q hq => by
      have := List.any_eq_false.1 hno (i, e, q) hq
      simp at this
    split at he
    · cases he
    · rename_i r hr0
      obtain ⟨T, hT, hr⟩ : ∃ T, (T = seeT ops its T0.1 o ∨ T = setAll (revs ops its T0 i o) (seeT ops its T0.1 o)) ∧ evOp c cf lim T [] ans o = some r := by
        split at hr0
        · rename_i r' hr'
          exact ⟨_, .inl rfl, hr'.trans hr0⟩
        · split at hr0
          · cases hr0
          · rename_i l _ hl
            exact ⟨_, .inr rfl, hr0⟩
      split at he
      · rename_i hv
        simp only [Option.some.injEq, Prod.mk.injEq] at he
        obtain ⟨rfl, rfl, rfl⟩ := he
        subst hD
        have hlen : (seeH c.L ops olds (D.take i) i h).length = m := by unfold seeH; rw [mapI_len, effs_len, hm]
        obtain ⟨k1, k2⟩ := evOp_pure (c := c) (cf := cf) (lim := lim) hpure (seeH c.L ops olds (D.take i) i h) hr
        have hW : evOpW c cf lim T (seeH c.L ops olds (D.take i) i h) ans o = some { r with h := seeH c.L ops olds (D.take i) i h } := by
          unfold evOpW
          rw [k2]
          simp
        exact ⟨rfl, hm, fun p hp => (by cases hp), fun p hp => (by cases hp), (by simpa using hv), fun p hp => (by cases hp), fun B hB => (by cases hB), .inl ⟨T, ans, _, hT, hW, hc, rfl, by simp [hlen], by simp [hlen], fun p hp => (by cases hp), fun e q hq => (hno' e q hq).elim, hg⟩⟩
      · cases he
  split at he
  · cases he
  · rename_i r hr0
    obtain ⟨T, hT, hr⟩ : ∃ T, (T = seeT ops its T0.1 o ∨ T = setAll (revs ops its T0 i o) (seeT ops its T0.1 o)) ∧ evOpW c cf lim T (seeH c.L ops olds its i h) ans o = some r := by
      split at hr0
      · rename_i r' hr'
        exact ⟨_, .inl rfl, hr'.trans hr0⟩
      · split at hr0
        · cases hr0
        · rename_i l _ hl
          exact ⟨_, .inr rfl, hr0⟩
    split at he
    · rename_i hh
      obtain ⟨h1, h2, h3, h4⟩ := hh
      split at he
      · rename_i cs hcs
        simp only [Option.some.injEq, Prod.mk.injEq] at he
        obtain ⟨rfl, rfl, rfl⟩ := he
        have hM : m + (r.h.drop m).length = r.h.length := by rw [List.length_drop]; omega
        have hok := okBs_ok _ _ hcs fun p hp => hc p (List.mem_append_right _ hp)
        have mem : ∀ p : Nat × Option Blk, p ∈ ((olds.filter (fun p => p.1 == i && decide (c.L ≤ p.2.1) && decide (p.2.1 < m))).map (fun p => (p.2.1, (r.h[p.2.1]?).join))) → ∃ x ∈ olds.filter (fun p => p.1 == i && decide (c.L ≤ p.2.1) && decide (p.2.1 < m)), p = (x.2.1, (r.h[x.2.1]?).join) := fun p hp => by
          obtain ⟨x, hx, rfl⟩ := List.mem_map.1 hp
          exact ⟨x, hx, rfl⟩
        subst hD
        refine ⟨rfl, hm, fun p hp => ?_, fun p hp q hq e => ?_, by simp only [hM]; exact h2, fun p hp B hB => ?_, fun B hB => ?_, .inl ⟨T, ans, r, hT, hr, fun p hp => hc p (List.mem_append_left _ hp), rfl, rfl, h1, fun p hp => ?_, fun e q hq hL hlt => ?_, hg⟩⟩
        · obtain ⟨x, hx, rfl⟩ := mem p hp
          have hl := List.all_eq_true.1 h3 x hx
          simp only [List.mem_filter, Bool.and_eq_true, beq_iff_eq, decide_eq_true_eq] at hx
          obtain ⟨hx1, ⟨hx2, hx3⟩, hx4⟩ := hx
          refine ⟨hx3, hx4, ⟨x.2.2, ?_⟩, hl⟩
          rw [← hx2]
          exact hx1
        · obtain ⟨x, _, rfl⟩ := mem p hp
          obtain ⟨y, _, rfl⟩ := mem q hq
          simp only at e ⊢
          rw [e]
        · obtain ⟨x, hx, rfl⟩ := mem p hp
          simp only [hM]
          exact hok (x.2.2, (r.h[x.2.1]?).join) (List.mem_append_left _ (List.mem_map.2 ⟨x, hx, rfl⟩)) B hB
        · refine ⟨?_, List.all_eq_true.1 h4 _ hB⟩
          simp only [hM]
          obtain ⟨q, hq⟩ := List.mem_iff_getElem?.1 hB
          exact hok (olds.any (fun p => p.1 == i && p.2.1 == m + q && p.2.2), some B) (List.mem_append_right _ (List.mem_of_getElem? (i := q) (by rw [mapI_get, hq]; rfl))) B rfl
        · obtain ⟨x, _, rfl⟩ := mem p hp
          rfl
        · refine List.any_eq_true.2 ⟨(e, (r.h[e]?).join), List.mem_map.2 ⟨(i, e, q), ?_, rfl⟩, by simp⟩
          exact List.mem_filter.2 ⟨hq, by simp [hL, hlt]⟩
      · cases he
    · cases he
theorem evD1_ok {i m : Nat} {its : List DIt} {D : List DIt} (hD : D.take i = its) (hm : m = grown its h.length) {ans ans' : List Ans} {o : Oper} {d : DIt} {cons : List Prop} (he : evD1 c cf lim ops olds h T0 i its m ans o = some (d, ans', cons)) (hc : ∀ p ∈ cons, p) : d.m = m ∧ ItOk c cf lim ops olds h T0 D i o d := by
  unfold evD1 at he
  split at he
  · rename_i hg
    exact evDo_ok hD hm he hc (.inl hg)
  · rename_i j want hg
    split at he
    · rename_i hb
      rw [Bool.and_eq_true] at hb
      split at he
      · rename_i jt hj
        split at he
        · rename_i b hv
          split at he
          · rename_i q ans1 cs1 hq
            split at he
            · rename_i hw
              split at he
              · rename_i d' a' cs hd
                simp only [Option.some.injEq, Prod.mk.injEq] at he
                obtain ⟨rfl, rfl, rfl⟩ := he
                have hbq : b = q := askB_ok hq fun p hp => hc p (List.mem_append_left _ hp)
                exact evDo_ok hD hm hd (fun p hp => hc p (List.mem_append_right _ hp)) (.inr ⟨j, want, jt, b, hg, hb.1, hb.2, hj, hv, by rw [hbq]; exact hw⟩)
              · cases he
            · rename_i hw
              simp only [Option.some.injEq, Prod.mk.injEq] at he
              obtain ⟨rfl, rfl, rfl⟩ := he
              have hbq : b = q := askB_ok hq hc
              subst hD
              exact ⟨rfl, hm, fun p hp => (by cases hp), fun p hp => (by cases hp), (by simp [V.within]), fun p hp => (by cases hp), fun B hB => (by cases hB), .inr ⟨rfl, rfl, rfl, j, want, jt, .bool b, hg, hb.1, hb.2, hj, hv, .inl ⟨b, rfl, by rw [hbq]; simpa using hw⟩⟩⟩
          · cases he
        · rename_i l hv
          simp only [Option.some.injEq, Prod.mk.injEq] at he
          obtain ⟨rfl, rfl, rfl⟩ := he
          subst hD
          exact ⟨rfl, hm, fun p hp => (by cases hp), fun p hp => (by cases hp), (by simp [V.within]), fun p hp => (by cases hp), fun B hB => (by cases hB), .inr ⟨rfl, rfl, rfl, j, want, jt, .tuple l, hg, hb.1, hb.2, hj, hv, .inr ⟨l, rfl⟩⟩⟩
        · cases he
      · cases he
    · cases he
theorem evD_ok : ∀ (rest : List Oper) (i : Nat) (its : List DIt) (m : Nat) (ans : List Ans) (r : DROut), evD c cf lim ops olds h T0 i its m rest ans = some r → (∀ p ∈ r.cons, p) → its.length = i → m = grown its h.length → (∀ k o, rest[k]? = some o → ops[i + k]? = some o) →
    its <+: r.its ∧ r.its.length = i + rest.length ∧ ∀ k o, rest[k]? = some o → ∃ d, r.its[i + k]? = some d ∧ ItOk c cf lim ops olds h T0 r.its (i + k) o d
  | [], i, its, m, ans, r, he, hc, hl, hm, ho => by
    simp only [evD, Option.some.injEq] at he
    subst he
    exact ⟨List.prefix_refl _, by simp [hl], fun k o hk => by simp at hk⟩
  | o :: rest, i, its, m, ans, r, he, hc, hl, hm, ho => by
    simp only [evD] at he
    split at he
    · cases he
    · rename_i d ans' cons hd
      split at he
      · cases he
      · rename_i r' hr'
        simp only [Option.some.injEq] at he
        subst he
        obtain ⟨h1, h2, h3⟩ := evD_ok rest (i + 1) (its ++ [d]) _ _ r' hr' (fun p hp => hc p (List.mem_append_right _ hp)) (by simp [hl]) (by rw [grown_append, ← hm]; rfl) fun k o' hk => by
          rw [show i + 1 + k = i + (k + 1) by omega]
          exact ho (k + 1) o' (by simpa using hk)
        have hp : its <+: r'.its := (List.prefix_append its [d]).trans h1
        have htk : r'.its.take i = its := by
          obtain ⟨u, hu⟩ := hp
          rw [← hu, ← hl]; simp
        refine ⟨hp, by simp only [h2, List.length_cons]; omega, fun k o' hk => ?_⟩
        cases k with
        | zero =>
          simp only [List.getElem?_cons_zero, Option.some.injEq] at hk
          subst hk
          obtain ⟨_, k2⟩ := evD1_ok (D := r'.its) htk hm hd fun p hp => hc p (List.mem_append_left _ hp)
          refine ⟨d, ?_, k2⟩
          obtain ⟨u, hu⟩ := h1
          show r'.its[i]? = some d
          rw [← hu, ← hl]
          simp
        | succ k =>
          obtain ⟨d', k1, k2⟩ := h3 k o' (by simpa using hk)
          rw [show i + 1 + k = i + (k + 1) by omega] at k1 k2
          exact ⟨d', k1, k2⟩
end
end
end Go.Proofs.Ytcibaankajfhlaa.E2
end
section
namespace Go.Proofs.Ytcibaankajfhlaa.E2
open Go Go.RowKit
noncomputable section
theorem grown_take {D : List DIt} {n : Nat} : ∀ {i k : Nat}, i ≤ k → grown (D.take i) n ≤ grown (D.take k) n := fun {i k} h => by
  obtain ⟨q, rfl⟩ : ∃ q, k = i + q := ⟨k - i, by omega⟩
  rw [List.take_add, grown_append]
  exact grown_ge _ _
theorem grown_succ {D : List DIt} {n i : Nat} {it : DIt} (h : D[i]? = some it) : grown (D.take (i + 1)) n = grown (D.take i) n + it.nw.length := by
  rw [List.take_add_one, h, grown_append]
  rfl
theorem split_at {D : List DIt} {i : Nat} {it : DIt} (h : D[i]? = some it) : D = D.take i ++ it :: D.drop (i + 1) := by
  have hl : i < D.length := (List.getElem?_eq_some_iff.1 h).1
  have e : D[i] = it := (List.getElem?_eq_some_iff.1 h).2
  rw [← e, List.getElem_cons_drop, List.take_append_drop]
theorem mem_slotsAt {ops : Array Oper} {S : Nat → Bool} {x : V} : ∀ (l : List DIt) (j : Nat) (t : List V), x ∈ slotsAt ops S j l t → x ∈ t ∨ ∃ k it, l[k]? = some it ∧ S (j + k) = true ∧ x = it.v
  | [], j, t, h => .inl h
  | it :: l, j, t, h => by
    rcases mem_slotsAt l (j + 1) _ h with h1 | ⟨k, it', h1, h2, h3⟩
    · split at h1
      · rename_i hs
        cases hd : dstAt ops j with
        | none => rw [hd] at h1; exact .inl h1
        | some d =>
          rw [hd] at h1
          have h1 : x ∈ setR t d it.v := h1
          rw [setR_eq] at h1
          rcases List.mem_or_eq_of_mem_set h1 with h2 | h2
          · exact .inl h2
          · exact .inr ⟨0, it, rfl, hs, h2⟩
      · exact .inl h1
    · exact .inr ⟨k + 1, it', by simpa using h1, by rw [show j + (k + 1) = j + 1 + k by omega]; exact h2, h3⟩
mutual
theorem V.under_of {n : Nat} : ∀ x : V, x.within (fun b => decide (b < n)) = true → x.under n = true
  | .raw v, _ => rfl
  | .any k, h => by simp [V.within] at h
  | .ptr b o, hx => hx
  | .slo b l, hx => hx
  | .sub b o l k, hx => hx
  | .yld b, hx => hx
  | .mp b, hx => hx
  | .fn f x y, hx => by
    simp only [V.under, V.within, Bool.and_eq_true] at *
    exact ⟨unders_of x hx.1, unders_of y hx.2⟩
  | .agg l, hx => by simp only [V.under, V.within] at *; exact unders_of l hx
  | .tup l, hx => by simp only [V.under, V.within] at *; exact unders_of l hx
  | .lit b, _ => rfl
theorem unders_of {n : Nat} : ∀ l : List V, withins (fun b => decide (b < n)) l = true → unders n l = true
  | [], _ => rfl
  | x :: l, hx => by
    simp only [unders, withins, Bool.and_eq_true] at *
    exact ⟨V.under_of x hx.1, unders_of l hx.2⟩
end
theorem V.slotOk_of {n : Nat} (x : V) (hx : x.slotIn (fun b => decide (b < n)) = true) : x.slotOk n = true := by
  cases x <;> first | rfl | exact V.under_of _ hx
theorem Blk.under_of {n : Nat} (B : Blk) (hB : B.within (fun b => decide (b < n)) = true) : B.under n = true := by
  cases B with
  | cells cs ty own => exact unders_of _ hB
  | rcd r =>
    simp only [Blk.under, Blk.within, List.all_eq_true] at hB ⊢
    exact fun x hx => V.slotOk_of x (hB x hx)
  | mp ks vs bs k => exact unders_of _ hB
theorem roB_some {X : Option Blk} {B' : Blk} (h : roB X = some B') : ∃ cs ty own, X = some (.cells cs ty own) ∧ B' = .cells cs ty .ro := by
  cases X with
  | none => cases h
  | some B =>
    cases B with
    | cells cs ty own => cases h; exact ⟨cs, ty, own, rfl, rfl⟩
    | _ => cases h
section
variable {c : Cfg} {cf : CF} {lim : Nat} {ops : Array Oper} {olds : Olds} {h : Heap} {t : List V} {D : List DIt} {S : Nat → Bool}
structure Told (c : Cfg) (cf : CF) (lim : Nat) (ops : Array Oper) (olds : Olds) (h : Heap) (t : List V) (D : List DIt) : Prop where
  len : D.length = ops.size
  it : ∀ i o, ops[i]? = some o → ∃ d, D[i]? = some d ∧ ItOk c cf lim ops olds h (hideT ops t, t) D i o d
  back : ∀ (i : Nat) (o : Oper), ops[i]? = some o → ∀ e ∈ o.after, Region.binds .any e = true → e.on < i
  dst : ∀ i d, dstAt ops i = some d → d < t.length
  once : ∀ i j s, dstAt ops i = some s → dstAt ops j = some s → i = j
  chain : ∀ p ∈ olds, ∀ q ∈ olds, p.2.1 = q.2.1 → p.1 < q.1 → waitsB ops q.1 p.1 = true
def Closed (ops : Array Oper) (S : Nat → Bool) : Prop := ∀ i j, S i = true → waitsB ops i j = true → S j = true
theorem waits_lt (H : Told c cf lim ops olds h t D) {i j : Nat} (hw : waitsB ops i j = true) : j < i := by
  have key : ∀ (d i j : Nat), waitsN d ops i j = true → j < i := by
    intro d
    induction d with
    | zero => intro i j h; cases h
    | succ d ih =>
      intro i j h
      unfold waitsN at h
      split at h
      · rename_i o ho
        obtain ⟨e, he, hb⟩ := List.any_eq_true.1 h
        rw [Bool.and_eq_true, Bool.or_eq_true, beq_iff_eq] at hb
        have h1 := H.back i o ho e (Array.mem_toList_iff.1 he) hb.1
        rcases hb.2 with h2 | h2
        · omega
        · have := ih _ _ h2
          omega
      · cases h
  exact key 12 i j hw
theorem Told.of (H : Told c cf lim ops olds h t D) {i : Nat} {d : DIt} (hd : D[i]? = some d) : ∃ o, ops[i]? = some o ∧ ItOk c cf lim ops olds h (hideT ops t, t) D i o d := by
  have hl : i < ops.size := by rw [← H.len]; exact (List.getElem?_eq_some_iff.1 hd).1
  obtain ⟨d', h1, h2⟩ := H.it i _ (Array.getElem?_eq_getElem hl)
  obtain rfl := Option.some.inj (hd.symm.trans h1)
  exact ⟨_, Array.getElem?_eq_getElem hl, h2⟩
theorem Told.key (H : Told c cf lim ops olds h t D) {k e : Nat} {it : DIt} (hk : D[k]? = some it) (he : it.key e = true) : c.L ≤ e ∧ e < it.m ∧ (∃ q, (k, e, q) ∈ olds) ∧ liveB (seeH c.L ops olds (D.take k) k h)[e]? = true := by
  obtain ⟨o, _, h2⟩ := H.of hk
  obtain ⟨p, hp, hpe⟩ := List.any_eq_true.1 he
  rw [beq_iff_eq] at hpe
  subst hpe
  exact h2.keys p hp
theorem Told.fn (H : Told c cf lim ops olds h t D) {k : Nat} {it : DIt} (hk : D[k]? = some it) : ∀ p ∈ it.chg, ∀ q ∈ it.chg, p.1 = q.1 → p.2 = q.2 := by
  obtain ⟨o, _, h2⟩ := H.of hk
  exact h2.fn
theorem Told.m_le (H : Told c cf lim ops olds h t D) {k i : Nat} {it d : DIt} (hk : D[k]? = some it) (hi : D[i]? = some d) (hlt : k < i) : it.m + it.nw.length ≤ d.m := by
  obtain ⟨_, _, h2⟩ := H.of hk
  obtain ⟨_, _, h4⟩ := H.of hi
  rw [h2.m, h4.m, ← grown_succ hk]
  exact grown_take hlt
theorem Told.ok_lt (H : Told c cf lim ops olds h t D) {k : Nat} {it : DIt} (hk : D[k]? = some it) {b : Nat} (hb : okN ops (D.take k) h.length k it.m (it.m + it.nw.length) b = true) : b < it.m + it.nw.length := by
  obtain ⟨_, _, h2⟩ := H.of hk
  simp only [okN, Bool.or_eq_true, Bool.and_eq_true, decide_eq_true_eq] at hb
  rcases hb with (hb | hb) | hb
  · have := grown_ge (D.take k) h.length
    rw [← h2.m] at this
    omega
  · exact hb.2
  · obtain ⟨j, hj, hb⟩ := List.any_eq_true.1 hb
    rw [List.mem_range] at hj
    rw [Bool.and_eq_true] at hb
    obtain ⟨_, hb⟩ := hb
    split at hb
    · rename_i jt hjt
      rw [Bool.and_eq_true, decide_eq_true_eq, decide_eq_true_eq] at hb
      rw [List.getElem?_take, if_pos hj] at hjt
      have := H.m_le hjt hk hj
      omega
    · cases hb
theorem Told.sees (H : Told c cf lim ops olds h t D) (hC : Closed ops S) {i : Nat} (hS : S i = false) (hW : ∀ j, waitsB ops i j = true → S j = true) {e : Nat} {B' : Blk} (hB : (seeH c.L ops olds (D.take i) i h)[e]? = some (some B')) :
    ∃ B, (effs (waitsB ops i) 0 (D.take i) h)[e]? = some (some B) ∧ (effs S 0 D h)[e]? = some (some B) ∧ ((B' = B ∧ (e < c.L ∨ ∃ q, (i, e, q) ∈ olds)) ∨ roB (some B) = some B') := by
  unfold seeH at hB
  rw [mapI_get, Option.map_eq_some_iff] at hB
  obtain ⟨X, hX, hB⟩ := hB
  have hX' : ∃ B, X = some B ∧ ((B' = B ∧ (e < c.L ∨ ∃ q, (i, e, q) ∈ olds)) ∨ roB (some B) = some B') ∧ (c.L ≤ e → ∀ p ∈ olds, p.2.1 = e → p.1 = i ∨ waitsB ops i p.1 = true ∨ waitsB ops p.1 i = true) := by
    unfold seeB at hB
    split at hB
    · rename_i hL
      exact ⟨B', hB, .inl ⟨rfl, .inl hL⟩, fun h => by omega⟩
    · split at hB
      · cases hB
      · rename_i hk
        have hrel : ∀ p ∈ olds, p.2.1 = e → p.1 = i ∨ waitsB ops i p.1 = true ∨ waitsB ops p.1 i = true := fun p hp hpe => by
          rw [Bool.not_eq_true, List.any_eq_false] at hk
          have := hk p hp
          simp only [hpe, beq_self_eq_true, Bool.true_and, Bool.and_eq_true, bne_iff_ne, Bool.not_eq_true', not_and, Bool.not_eq_false] at this
          by_cases h1 : p.1 = i
          · exact .inl h1
          · by_cases h2 : waitsB ops i p.1 = true
            · exact .inr (.inl h2)
            · exact .inr (.inr (this ⟨h1, by simpa using h2⟩))
        split at hB
        · rename_i hd
          obtain ⟨p, hp, hpe⟩ := List.any_eq_true.1 hd
          rw [Bool.and_eq_true, beq_iff_eq, beq_iff_eq] at hpe
          refine ⟨B', hB, .inl ⟨rfl, .inr ⟨p.2.2, ?_⟩⟩, fun _ => hrel⟩
          rw [← hpe.1, ← hpe.2]
          exact hp
        · obtain ⟨cs, ty, own, h1, h2⟩ := roB_some hB
          exact ⟨_, h1, .inr (by rw [h1] at hB; exact hB), fun _ => hrel⟩
  obtain ⟨B, rfl, hcase, hrel⟩ := hX'
  refine ⟨B, hX, ?_, hcase⟩
  have related : ∀ k it, D[k]? = some it → it.key e = true → k = i ∨ waitsB ops i k = true ∨ waitsB ops k i = true := fun k it hk hke => by
    obtain ⟨k1, _, ⟨q, k3⟩, _⟩ := H.key hk hke
    exact hrel k1 _ k3 rfl
  have h1 : (effs S 0 (D.take i) h)[e]? = some (some B) := by
    have := effs_less (W := waitsB ops i) (S := S) (e := e) (D.take i) 0 h h rfl (.inl rfl) hW fun k it hk hke => by
      rw [List.getElem?_take] at hk
      split at hk
      · rename_i hki
        refine ⟨fun p hp q hq e1 e2 => H.fn hk p hp q hq (e1.trans e2.symm), ?_⟩
        rw [Nat.zero_add]
        rcases related k it hk hke with rfl | h1 | h1
        · omega
        · rw [h1, hW k h1]
        · have := waits_lt H h1; omega
      · cases hk
    rcases this with h2 | h2 | h2
    · rw [← h2]; exact hX
    · rw [hX] at h2; cases h2
    · rw [hX] at h2; cases h2
  rw [show (effs S 0 D h) = effs S 0 (D.take i ++ D.drop i) h by rw [List.take_append_drop], effs_append, effs_stay _ _ _ (lt_len h1), h1]
  intro k it hk hs
  rw [List.getElem?_drop] at hk
  cases hke : it.key e with
  | false => rfl
  | true =>
    exfalso
    have hl : i < D.length := by
      have := (List.getElem?_eq_some_iff.1 hk).1
      omega
    have hlt : (D.take i).length = i := by rw [List.length_take]; omega
    rw [hlt, Nat.zero_add] at hs
    rcases related (i + k) it hk hke with h2 | h2 | h2
    · rw [h2, hS] at hs; cases hs
    · have := waits_lt H h2; omega
    · rw [hC _ _ hs h2] at hS; cases hS
theorem Told.unborn (H : Told c cf lim ops olds h t D) (hC : Closed ops S) {i : Nat} (hS : S i = false) {it : DIt} (hi : D[i]? = some it) {e : Nat} (h1 : it.m ≤ e) (h2 : e < it.m + it.nw.length) :
    ∀ k kt, i < k → D[k]? = some kt → S k = true → kt.key e = false := by
  intro k
  induction k using Nat.strongRecOn with
  | ind k ih =>
    intro kt hik hk hs
    cases hke : kt.key e with
    | false => rfl
    | true =>
      exfalso
      obtain ⟨_, _, _, hlive⟩ := H.key hk hke
      unfold seeH at hlive
      rw [mapI_get] at hlive
      have hWi : waitsB ops k i = false := by
        cases hw : waitsB ops k i with
        | false => rfl
        | true => rw [hC _ _ hs hw] at hS; cases hS
      have hdead : (effs (waitsB ops k) 0 (D.take k) h)[e]? = some none := by
        have hi' : (D.take k)[i]? = some it := by rw [List.getElem?_take, if_pos hik]; exact hi
        rw [split_at hi', effs_append]
        have hlt : ((D.take k).take i).length = i := by
          rw [List.length_take, List.length_take]
          have := (List.getElem?_eq_some_iff.1 hk).1
          omega
        have hm : it.m = (effs (waitsB ops k) 0 ((D.take k).take i) h).length := by
          obtain ⟨_, _, h4⟩ := H.of hi
          rw [effs_len, h4.m, List.take_take, Nat.min_eq_left (by omega)]
        rw [hlt, Nat.zero_add]
        show (effs _ (i + 1) _ (if waitsB ops k i = true then _ else _))[e]? = _
        rw [hWi]
        simp only [Bool.false_eq_true, if_false]
        have hat : (effNo it (effs (waitsB ops k) 0 ((D.take k).take i) h))[e]? = some none := by
          show (_ ++ _)[e]? = _
          rw [List.getElem?_append_right (by omega), List.getElem?_map, List.getElem?_eq_getElem (by omega)]
          rfl
        rw [effs_stay _ _ _ (lt_len hat), hat]
        intro q qt hq hw
        rw [List.getElem?_drop, List.getElem?_take] at hq
        split at hq
        · rename_i hqk
          exact ih (i + 1 + q) hqk qt (by omega) hq (hC _ _ hs hw)
        · cases hq
      rw [hdead] at hlive
      simp only [Option.map_some] at hlive
      unfold seeB at hlive
      split at hlive
      · cases hlive
      · split at hlive
        · cases hlive
        · split at hlive <;> cases hlive
theorem Told.after (H : Told c cf lim ops olds h t D) (hC : Closed ops S) {i : Nat} (hS : S i = false) {it : DIt} (hi : D[i]? = some it) :
    (∀ e X, (e, X) ∈ it.chg → (effs (fun k => S k || k == i) 0 D h)[e]? = some X) ∧
    (∀ e, it.m ≤ e → e < it.m + it.nw.length → (effs (fun k => S k || k == i) 0 D h)[e]? = it.nw[e - it.m]? ∧ (effs S 0 D h)[e]? = some none) ∧
    (∀ e, it.key e = false → (e < it.m ∨ it.m + it.nw.length ≤ e) → (effs (fun k => S k || k == i) 0 D h)[e]? = (effs S 0 D h)[e]?) := by
  obtain ⟨o, ho, hok⟩ := H.of hi
  have hlt : (D.take i).length = i := by
    rw [List.length_take]
    have := (List.getElem?_eq_some_iff.1 hi).1
    omega
  have e1 : effs (fun k => S k || k == i) 0 D h = effs S (i + 1) (D.drop (i + 1)) (effOne it (effs S 0 (D.take i) h)) := by
    conv => lhs; rw [split_at hi]
    rw [effs_append, hlt, Nat.zero_add]
    show effs _ (i + 1) _ (if (S i || i == i) = true then _ else _) = _
    rw [effs_congr (S := fun k => S k || k == i) (T := S) (D.take i) 0 h fun k h1 h2 => by
      have : ¬ k = i := by omega
      simp [this]]
    simp only [beq_self_eq_true, Bool.or_true, if_true]
    exact effs_congr _ _ _ fun k h1 h2 => by
      have : ¬ k = i := by omega
      simp [this]
  have e2 : effs S 0 D h = effs S (i + 1) (D.drop (i + 1)) (effNo it (effs S 0 (D.take i) h)) := by
    conv => lhs; rw [split_at hi]
    rw [effs_append, hlt, Nat.zero_add]
    show effs _ (i + 1) _ (if S i = true then _ else _) = _
    rw [hS]
    rfl
  have hm : it.m = (effs S 0 (D.take i) h).length := by rw [effs_len, hok.m]
  refine ⟨fun e X hX => ?_, fun e h1 h2 => ?_, fun e hk hr => ?_⟩
  · have hke : it.key e = true := List.any_eq_true.2 ⟨_, hX, by simp⟩
    obtain ⟨k1, k2, ⟨q, k3⟩, _⟩ := H.key hi hke
    have hat : (effOne it (effs S 0 (D.take i) h))[e]? = some X := by
      show (putAll _ _ ++ _)[e]? = _
      rw [List.getElem?_append_left (by rw [putAll_len]; omega)]
      exact putAll_at it.chg X _ (fun p hp hpe => H.fn hi p hp _ hX hpe) hke (by omega)
    rw [e1, effs_stay _ _ _ (lt_len hat), hat]
    intro k kt hk hs
    rw [List.getElem?_drop] at hk
    cases hke' : kt.key e with
    | false => rfl
    | true =>
      exfalso
      obtain ⟨_, _, ⟨q', j3⟩, _⟩ := H.key hk hke'
      have := H.chain _ k3 _ j3 rfl (by simp only; omega)
      rw [hC _ _ hs this] at hS
      cases hS
  · have stay : ∀ k kt, (D.drop (i + 1))[k]? = some kt → S (i + 1 + k) = true → kt.key e = false := fun k kt hk hs => by
      rw [List.getElem?_drop] at hk
      exact H.unborn hC hS hi h1 h2 _ kt (by omega) hk hs
    have hn : it.nw[e - it.m]? = some (it.nw[e - it.m]'(by omega)) := List.getElem?_eq_getElem _
    constructor
    · have hat : (effOne it (effs S 0 (D.take i) h))[e]? = it.nw[e - it.m]? := by
        show (putAll _ _ ++ _)[e]? = _
        rw [List.getElem?_append_right (by rw [putAll_len]; omega), putAll_len, ← hm]
      rw [e1, effs_stay _ _ _ (lt_len (hat.trans hn)) stay, hat]
    · have hat : (effNo it (effs S 0 (D.take i) h))[e]? = some none := by
        show (_ ++ _)[e]? = _
        rw [List.getElem?_append_right (by omega), List.getElem?_map, ← hm, hn]
        rfl
      rw [e2, effs_stay _ _ _ (lt_len hat) stay, hat]
  · rw [e1, e2]
    refine effs_same _ _ _ _ (by rw [effOne_len, effNo_len]) ?_
    rcases hr with hr | hr
    · show (putAll _ _ ++ _)[e]? = (_ ++ _)[e]?
      rw [List.getElem?_append_left (by rw [putAll_len]; omega), List.getElem?_append_left (by omega), putAll_no _ _ hk]
    · rw [List.getElem?_eq_none (by rw [effOne_len]; omega), List.getElem?_eq_none (by rw [effNo_len]; omega)]
def okS (D : List DIt) (S : Nat → Bool) (n0 b : Nat) : Prop := b < n0 ∨ ∃ k it, D[k]? = some it ∧ S k = true ∧ it.m ≤ b ∧ b < it.m + it.nw.length
theorem Told.okS_of (H : Told c cf lim ops olds h t D) (hC : Closed ops S) {k : Nat} {it : DIt} (hk : D[k]? = some it) (hs : S k = true) {b : Nat} (hb : okN ops (D.take k) h.length k it.m (it.m + it.nw.length) b = true) : okS D S h.length b := by
  simp only [okN, Bool.or_eq_true, Bool.and_eq_true, decide_eq_true_eq] at hb
  rcases hb with (hb | hb) | hb
  · exact .inl hb
  · exact .inr ⟨k, it, hk, hs, hb⟩
  · obtain ⟨j, hj, hb⟩ := List.any_eq_true.1 hb
    rw [Bool.and_eq_true] at hb
    obtain ⟨hw, hb⟩ := hb
    split at hb
    · rename_i jt hjt
      rw [Bool.and_eq_true, decide_eq_true_eq, decide_eq_true_eq] at hb
      rw [List.getElem?_take] at hjt
      split at hjt
      · exact .inr ⟨j, jt, hjt, hC _ _ hs hw, hb⟩
      · cases hjt
    · cases hb
theorem Told.okS_far (H : Told c cf lim ops olds h t D) {i : Nat} (hS : S i = false) {it : DIt} (hi : D[i]? = some it) {b : Nat} (hb : okS D S h.length b) : ¬ (it.m ≤ b ∧ b < it.m + it.nw.length) := by
  rintro ⟨h1, h2⟩
  rcases hb with hb | ⟨k, kt, hk, hs, k1, k2⟩
  · obtain ⟨_, _, h4⟩ := H.of hi
    have := grown_ge (D.take i) h.length
    rw [← h4.m] at this
    omega
  · rcases Nat.lt_trichotomy k i with hlt | rfl | hgt
    · have := H.m_le hk hi hlt; omega
    · rw [hS] at hs; cases hs
    · have := H.m_le hi hk hgt; omega
end
end
end Go.Proofs.Ytcibaankajfhlaa.E2
end
section
namespace Go.Proofs.Ytcibaankajfhlaa.E2
open Go Go.RowKit
noncomputable section
section
variable {c : Cfg} {cf : CF} {lim : Nat} {ops : Array Oper} {olds : Olds} {h : Heap} {t : List V} {D : List DIt} {S : Nat → Bool}
theorem hide_get {s : Nat} {v : V} (hv : (hideT ops t)[s]? = some v) : v = .any s ∨ (t[s]? = some v ∧ (∀ j, dstAt ops j ≠ some s) ∧ ∀ k, v ≠ .any k) := by
  unfold hideT at hv
  rw [mapI_get, Option.map_eq_some_iff] at hv
  obtain ⟨x, hx, hv⟩ := hv
  cases x with
  | any k => exact .inl hv.symm
  | _ =>
    simp only at hv
    split at hv
    · exact .inl hv.symm
    · rename_i hn
      subst hv
      refine .inr ⟨hx, fun j hj => hn ?_, fun k e => by cases e⟩
      unfold dstAt at hj
      obtain ⟨o, ho, hd⟩ := Option.bind_eq_some_iff.1 hj
      exact List.any_eq_true.2 ⟨o, Array.mem_toList_iff.2 (Array.mem_of_getElem? ho), by simp [hd]⟩
theorem see_get {its : List DIt} {T0 : List V} {o : Oper} {i : Nat} (ho : ops[i]? = some o) : (seeT ops its T0 o).length = T0.length ∧ ∀ s v, (seeT ops its T0 o)[s]? = some v → T0[s]? = some v ∨ ∃ j jt, waitsB ops i j = true ∧ dstAt ops j = some s ∧ its[j]? = some jt ∧ v = jt.v := by
  have gen : ∀ (l : List Edge) (T : List V), (∀ e ∈ l, e ∈ o.after.toList) → (T.length = T0.length ∧ ∀ s v, T[s]? = some v → T0[s]? = some v ∨ ∃ j jt, waitsB ops i j = true ∧ dstAt ops j = some s ∧ its[j]? = some jt ∧ v = jt.v) →
      (l.foldl (fun T e => if Region.binds .any e then (match dstAt ops e.on, its[e.on]? with
  | some d, some it => setR T d it.v
  | _, _ => T) else T) T).length = T0.length ∧ ∀ s v, (l.foldl (fun T e => if Region.binds .any e then (match dstAt ops e.on, its[e.on]? with
  | some d, some it => setR T d it.v
  | _, _ => T) else T) T)[s]? = some v → T0[s]? = some v ∨ ∃ j jt, waitsB ops i j = true ∧ dstAt ops j = some s ∧ its[j]? = some jt ∧ v = jt.v := by
    intro l
    induction l with
    | nil => intro T _ hT; exact hT
    | cons e l ih =>
      intro T hl hT
      refine ih _ (fun e' he' => hl e' (List.mem_cons_of_mem _ he')) ?_
      dsimp only
      split
      · rename_i hb
        split
        · rename_i d jt hd hj
          rw [setR_eq]
          refine ⟨by rw [List.length_set]; exact hT.1, fun s v hv => ?_⟩
          rcases Nat.decEq d s with hne | rfl
          · rw [List.getElem?_set_ne hne] at hv; exact hT.2 s v hv
          · have hl' : d < T.length := by
              have := (List.getElem?_eq_some_iff.1 hv).1
              rwa [List.length_set] at this
            rw [List.getElem?_set_self hl'] at hv
            refine .inr ⟨e.on, jt, ?_, hd, hj, (Option.some.inj hv).symm⟩
            exact waitsB_edge ho (hl e List.mem_cons_self) hb
        · exact hT
      · exact hT
  exact gen o.after.toList T0 (fun _ h => h) ⟨rfl, fun s v hv => .inl hv⟩
theorem rev_get {its : List DIt} {T0 : List V × List V} {i : Nat} {o : Oper} (hT : (seeT ops its T0.1 o).length = T0.1.length) : ∀ l : List (Nat × V), (∀ p ∈ l, T0.2[p.1]? = some p.2 ∧ (∀ k, p.2 ≠ .any k) ∧ ownT ops i p.1 = true) → ∀ T : List V, (setAll l T).length = T.length ∧ ∀ s v, (setAll l T)[s]? = some v → T[s]? = some v ∨ (T0.2[s]? = some v ∧ (∀ k, v ≠ .any k) ∧ ownT ops i s = true)
  | [], _, T => ⟨rfl, fun s v hv => .inl hv⟩
  | p :: l, hl, T => by
    obtain ⟨h1, h2⟩ := rev_get hT l (fun q hq => hl q (List.mem_cons_of_mem _ hq)) (setR T p.1 p.2)
    obtain ⟨k1, k2, k3⟩ := hl p List.mem_cons_self
    show (setAll l (setR T p.1 p.2)).length = _ ∧ _
    refine ⟨by rw [h1, setR_eq, List.length_set], fun s v hv => ?_⟩
    rcases h2 s v hv with h3 | h3
    · rw [setR_eq] at h3
      rcases Nat.decEq p.1 s with hne | rfl
      · rw [List.getElem?_set_ne hne] at h3; exact .inl h3
      · have hl' : p.1 < T.length := by
          have := (List.getElem?_eq_some_iff.1 h3).1
          rwa [List.length_set] at this
        rw [List.getElem?_set_self hl'] at h3
        have := Option.some.inj h3
        subst this
        exact .inr ⟨k1, k2, k3⟩
    · exact .inr h3
theorem revs_ok {its : List DIt} {T0 : List V × List V} {i : Nat} {o : Oper} : ∀ p ∈ revs ops its T0 i o, T0.2[p.1]? = some p.2 ∧ (∀ k, p.2 ≠ .any k) ∧ ownT ops i p.1 = true := by
  intro p hp
  unfold revs at hp
  obtain ⟨s, _, hs⟩ := List.mem_filterMap.1 hp
  split at hs
  · split at hs
    · cases hs
    · rename_i v hna hv
      split at hs
      · rename_i ho
        simp only [Option.some.injEq] at hs
        subst hs
        exact ⟨by rw [← getR_eq]; exact hv, fun k e => hna k (by rw [← e]), ho⟩
      · cases hs
    · cases hs
  · cases hs
theorem hide_len : (hideT ops t).length = t.length := by simp [hideT, mapI_len]
structure Inv (c : Cfg) (lim : Nat) (ops : Array Oper) (h : Heap) (t : List V) (D : List DIt) (ρ0 : Ren) (a0 : Act) (w0 : World) (S : Nat → Bool) (a : Act) (w : World) (ρ : Ren) : Prop where
  unk : ρ.unk = ρ0.unk
  defers : a.defers = a0.defers
  T : RelT ρ (grown D h.length) (slotsAt ops S 0 D t) a
  H : RelH c ρ (effs S 0 D h) w
  F : Fr lim h.length ρ0 h w0 ρ (effs S 0 D h) w
variable {ρ0 : Ren} {a0 : Act} {w0 : World} {a : Act} {w : World} {ρ : Ren}
theorem Told.seesT (H : Told c cf lim ops olds h t D) (R0 : RelT ρ0 h.length t a0) (I : Inv c lim ops h t D ρ0 a0 w0 S a w ρ) {i : Nat} {o : Oper} {it : DIt} (ho : ops[i]? = some o) (hi : D[i]? = some it) (hC : Closed ops S) (hS : S i = false) (hW : ∀ j, waitsB ops i j = true → S j = true) {T : List V}
    (hT : T = seeT ops (D.take i) (hideT ops t) o ∨ T = setAll (revs ops (D.take i) (hideT ops t, t) i o) (seeT ops (D.take i) (hideT ops t) o)) : RelT ⟨ρ.blk, fun s => a.tmps.getD s undef⟩ it.m T a := by
  obtain ⟨hlen0, hget0⟩ := see_get (its := D.take i) (T0 := hideT ops t) ho
  obtain ⟨hlen, hget⟩ : T.length = (hideT ops t).length ∧ ∀ s v, T[s]? = some v → (((hideT ops t)[s]? = some v ∨ ∃ j jt, waitsB ops i j = true ∧ dstAt ops j = some s ∧ (D.take i)[j]? = some jt ∧ v = jt.v) ∨ (t[s]? = some v ∧ (∀ k, v ≠ .any k) ∧ ownT ops i s = true)) := by
    rcases hT with rfl | rfl
    · exact ⟨hlen0, fun s v hv => .inl (hget0 s v hv)⟩
    · obtain ⟨k1, k2⟩ := rev_get (T0 := (hideT ops t, t)) (i := i) (o := o) hlen0 (revs ops (D.take i) (hideT ops t, t) i o) revs_ok (seeT ops (D.take i) (hideT ops t) o)
      refine ⟨k1.trans hlen0, fun s v hv => ?_⟩
      rcases k2 s v hv with h1 | h1
      · exact .inl (hget0 s v h1)
      · exact .inr h1
  have unw : ∀ {s : Nat}, ownT ops i s = true → ∀ k, k < D.length → S k = true → dstAt ops k ≠ some s := fun {s} ho k hk hSk hd => by
    have hlt : k < ops.size := by
      unfold dstAt at hd
      obtain ⟨o', ho', _⟩ := Option.bind_eq_some_iff.1 hd
      exact itm_lt ho'
    have := List.all_eq_true.1 ho k (List.mem_range.2 hlt)
    simp only [Bool.or_eq_true, bne_iff_ne, ne_eq, beq_iff_eq] at this
    rcases this with (h1 | h1) | h1
    · exact h1 hd
    · subst h1; rw [hS] at hSk; cases hSk
    · have := hC k i hSk h1; rw [hS] at this; cases this
  have hm : h.length ≤ it.m := by
    obtain ⟨_, _, h4⟩ := H.of hi
    rw [h4.m]; exact grown_ge _ _
  have hts : a.tmps.size = t.length := by rw [I.T.tmps]; simp [concs_length, slotsAt_len]
  have slot : ∀ s : Nat, ((slotsAt ops S 0 D t)[s]?).map (fun x : V => x.conc ρ) = a.tmps[s]? := fun s => by
    rw [I.T.tmps]; simp [concs_get]
  have old : ∀ {s : Nat} {v : V}, t[s]? = some v → (∀ k, v ≠ .any k) → v.under h.length = true := fun {s v} hs hna => by
    have := R0.sco v (List.mem_of_getElem? hs)
    cases v with
    | any k => exact absurd rfl (hna k)
    | _ => exact this
  have item : ∀ {j : Nat} {jt : DIt}, (D.take i)[j]? = some jt → D[j]? = some jt ∧ j < i := fun {j jt} hj => by
    rw [List.getElem?_take] at hj
    split at hj
    · rename_i hlt; exact ⟨hj, hlt⟩
    · cases hj
  refine ⟨?_, fun x hx => ?_⟩
  · apply Array.ext_getElem?
    intro s
    have et : ∀ l : List Value, l.toArray[s]? = l[s]? := fun l => List.getElem?_toArray
    rw [et (concs ⟨ρ.blk, fun s => a.tmps.getD s undef⟩ T), concs_get]
    rcases Nat.lt_or_ge s t.length with hs | hs
    · have hsome : T[s]? = some (T[s]'(by rw [hlen, hide_len]; exact hs)) := List.getElem?_eq_getElem _
      generalize T[s]'(by rw [hlen, hide_len]; exact hs) = v at hsome
      rw [hsome]
      have hany : a.tmps[s]? = some ((V.any s).conc ⟨ρ.blk, fun s => a.tmps.getD s undef⟩) := by simp [V.conc, hts, hs]
      rcases hget s v hsome with (h1 | ⟨j, jt, h1, h2, h3, rfl⟩) | ⟨h2, h4, h3⟩
      · rcases hide_get h1 with rfl | ⟨h2, h3, h4⟩
        · exact hany
        · rw [← slot s, slotsAt_un D 0 t fun k _ _ => by rw [Nat.zero_add]; exact h3 k, h2]
          simp only [Option.map_some]
          rw [← V.conc_agree (ρ := ρ) (ρ' := ⟨ρ.blk, fun s => a.tmps.getD s undef⟩) (fun _ _ => rfl) v (old h2 h4)]
      · obtain ⟨h4, _⟩ := item h3
        rw [← slot s, slotsAt_at (fun i j h5 h6 => H.once i j s h5 h6) D 0 t j jt h4 (by rw [Nat.zero_add]; exact hW j h1) (by rw [Nat.zero_add]; exact h2) hs]
        simp only [Option.map_some]
        obtain ⟨_, _, h5⟩ := H.of h4
        rw [← V.conc_in (ρ := ρ) (ρ' := ⟨ρ.blk, fun s => a.tmps.getD s undef⟩) (fun _ _ => rfl) _ h5.val]
      · rw [← slot s, slotsAt_un D 0 t fun k k1 k2 => by rw [Nat.zero_add] at k2 ⊢; exact unw h3 k k1 k2, h2]
        simp only [Option.map_some]
        rw [← V.conc_agree (ρ := ρ) (ρ' := ⟨ρ.blk, fun s => a.tmps.getD s undef⟩) (fun _ _ => rfl) v (old h2 h4)]
    · rw [Array.getElem?_eq_none (by omega), List.getElem?_eq_none (by rw [hlen, hide_len]; exact hs)]
      rfl
  · obtain ⟨s, hs⟩ := List.mem_iff_getElem?.1 hx
    rcases hget s x hs with (h1 | ⟨j, jt, h1, h2, h3, rfl⟩) | ⟨h2, h4, h3⟩
    · rcases hide_get h1 with rfl | ⟨h2, h3, h4⟩
      · rfl
      · exact V.slot_of_under _ (V.under_mono hm _ (old h2 h4))
    · obtain ⟨h4, h5⟩ := item h3
      obtain ⟨_, _, h6⟩ := H.of h4
      refine V.slot_of_under _ (V.under_of _ (V.within_mono (fun b hb => ?_) _ h6.val))
      have := H.ok_lt h4 hb
      have := H.m_le h4 hi h5
      simp only [decide_eq_true_eq]; omega
    · exact V.slot_of_under _ (V.under_mono hm _ (old h2 h4))
theorem Told.entry (H : Told c cf lim ops olds h t D) {W : Nat → Bool} (hC : ∀ k, W k = true → ∀ j, waitsB ops k j = true → W j = true ∨ True) (hsco : ∀ (i : Nat) (B : Blk), h[i]? = some (some B) → B.under h.length = true) {l : List DIt} (hl : l <+: D) {e : Nat} {B : Blk} (he : (effs W 0 l h)[e]? = some (some B)) :
    B.under h.length = true ∨ ∃ k it, l[k]? = some it ∧ D[k]? = some it ∧ W k = true ∧ B.within (okN ops (D.take k) h.length k it.m (it.m + it.nw.length)) = true := by
  rcases effs_from l 0 h he with h1 | ⟨k, it, h1, h2, h3⟩
  · exact .inl (hsco e B h1)
  · rw [Nat.zero_add] at h2
    have hk : D[k]? = some it := by
      obtain ⟨u, rfl⟩ := hl
      rw [List.getElem?_append_left (List.getElem?_eq_some_iff.1 h1).1]; exact h1
    obtain ⟨o, _, h4⟩ := H.of hk
    refine .inr ⟨k, it, h1, hk, h2, ?_⟩
    rcases h3 with h3 | h3
    · exact h4.turned _ h3 B rfl
    · exact (h4.news B h3).1
theorem Told.seesH (H : Told c cf lim ops olds h t D) (hC : Closed ops S) (hL : c.L ≤ lim) (hlh : lim ≤ h.length) (RH0 : RelH c ρ0 h w0) (I : Inv c lim ops h t D ρ0 a0 w0 S a w ρ) {i : Nat} {it : DIt} (hi : D[i]? = some it) (hS : S i = false) (hW : ∀ j, waitsB ops i j = true → S j = true) (u : Nat → Value) :
    RelH c ⟨ρ.blk, u⟩ (seeH c.L ops olds (D.take i) i h) w ∧ (seeH c.L ops olds (D.take i) i h).length = it.m := by
  obtain ⟨o, ho, hok⟩ := H.of hi
  have hlen : (seeH c.L ops olds (D.take i) i h).length = it.m := by unfold seeH; rw [mapI_len, effs_len, hok.m]
  have hm : h.length ≤ it.m := by rw [hok.m]; exact grown_ge _ _
  refine ⟨⟨fun e B' hB => ?_, fun x y hx hy he => ?_, fun e B' hB => ?_, fun p hp => ?_, by rw [hlen]; have := RH0.big; omega, fun e he => ?_⟩, hlen⟩
  · obtain ⟨B, _, h2, h3⟩ := H.sees hC hS hW hB
    have h4 : BlkOk c.P ⟨ρ.blk, u⟩ (ρ.blk e) w B := (I.H.cell e B h2).move (I.H.sco e B h2) (fun _ _ => rfl) (fun _ => rfl)
    rcases h3 with ⟨rfl, _⟩ | h3
    · exact h4
    · obtain ⟨cs, ty, own, h5, rfl⟩ := roB_some h3
      obtain rfl := Option.some.inj h5
      refine ⟨h4.nil, fun hn => ?_, fun sz hsz => (by cases hsz)⟩
      obtain ⟨fr, h6, _⟩ := h4.row hn
      exact ⟨fr, h6, fun hro => absurd rfl hro⟩
  · obtain ⟨B', x1, x2, x3⟩ := hx
    obtain ⟨C', y1, y3⟩ := hy
    obtain ⟨B, _, h2, h3⟩ := H.sees hC hS hW x1
    obtain ⟨C, _, k2, k3⟩ := H.sees hC hS hW y1
    refine I.H.inj x y ⟨B, h2, ?_, x3⟩ ⟨C, k2, y3⟩ he
    rcases h3 with ⟨rfl, _⟩ | h3
    · exact x2
    · obtain ⟨cs, ty, own, _, rfl⟩ := roB_some h3
      cases x2
  · obtain ⟨B, h1, h2, h3⟩ := H.sees hC hS hW hB
    rw [hlen]
    have h4 : B.under it.m = true := by
      rcases H.entry (W := waitsB ops i) (fun _ _ _ _ => .inr trivial) RH0.sco (List.take_prefix i D) h1 with h5 | ⟨k, kt, h5, h6, h7, h8⟩
      · exact Blk.under_mono hm _ h5
      · refine Blk.under_of _ (Blk.within_mono (fun b hb => ?_) _ h8)
        have hki := waits_lt H h7
        have := H.ok_lt h6 hb
        have := H.m_le h6 hi hki
        simp only [decide_eq_true_eq]; omega
    rcases h3 with ⟨rfl, _⟩ | h3
    · exact h4
    · obtain ⟨cs, ty, own, h5, rfl⟩ := roB_some h3
      obtain rfl := Option.some.inj h5
      exact h4
  · obtain ⟨g1, g2, g3⟩ := RH0.glob p hp
    have hb := I.F.ren p.2 g3
    refine ⟨?_, ?_, by rw [hlen]; omega⟩
    · show (ρ.blk p.2).n = p.1
      rw [hb, g1]
    · show (ρ.blk p.2).pre = []
      rw [hb, g2]
  · have hbig := RH0.big
    unfold seeH
    rw [mapI_get, effs_stay _ _ _ (by omega) fun k kt hk _ => ?_]
    · rw [RH0.base e he]
      have : ∀ X : Option (Option Blk), X.map (fun X => seeB c.L ops olds i e X) = X := fun X => by
        cases X with
        | none => rfl
        | some X => simp [seeB, he]
      exact this _
    · cases hke : kt.key e with
      | false => rfl
      | true =>
        have hk' : D[k]? = some kt := by
          rw [List.getElem?_take] at hk
          split at hk
          · exact hk
          · cases hk
        have := (H.key hk' hke).1
        omega
theorem Told.step (H : Told c cf lim ops olds h t D) (hC : Closed ops S) (hL : c.L ≤ lim) (hlh : lim ≤ h.length) (RH0 : RelH c ρ0 h w0) (R0 : RelT ρ0 h.length t a0) (I : Inv c lim ops h t D ρ0 a0 w0 S a w ρ) {i : Nat} {o : Oper} {it : DIt} (ho : ops[i]? = some o) (hi : D[i]? = some it) (hS : S i = false) (hW : ∀ j, waitsB ops i j = true → S j = true)
    {v : V} {oh : Heap} {ρ' : Ren} {w' : World} (hv : it.v = v) (hnw : it.nw = oh.drop it.m) (hml : it.m ≤ oh.length) (hval : ∀ p ∈ it.chg, p.2 = (oh[p.1]?).join) (hdecl : ∀ e q, (i, e, q) ∈ olds → c.L ≤ e → e < it.m → it.key e = true) {u : Nat → Value}
    (RH' : RelH c ρ' oh w') (F' : Fr lim it.m ⟨ρ.blk, u⟩ (seeH c.L ops olds (D.take i) i h) w ρ' oh w') : ∃ ρ2, Inv c lim ops h t D ρ0 a0 w0 (fun k => S k || k == i) (a.put o.dst (v.conc ρ')) w' ρ2 := by
  obtain ⟨_, ho', hok⟩ := H.of hi
  obtain rfl : o = _ := Option.some.inj (ho.symm.trans ho')
  obtain ⟨A1, A2, A3⟩ := H.after hC hS hi
  obtain ⟨RHs, hslen⟩ := H.seesH hC hL hlh RH0 I hi hS hW u
  have hM : it.m + it.nw.length = oh.length := by rw [hnw, List.length_drop]; omega
  have hm : h.length ≤ it.m := by rw [hok.m]; exact grown_ge _ _
  have hN : it.m + it.nw.length ≤ grown D h.length := by
    rw [hok.m, ← grown_succ hi]
    have := grown_take (D := D) (n := h.length) (i := i + 1) (k := D.length) (List.getElem?_eq_some_iff.1 hi).1
    rwa [List.take_length] at this
  rw [hM] at A2 A3
  generalize hρ2 : (⟨fun e => if it.m ≤ e ∧ e < oh.length then ρ'.blk e else ρ.blk e, ρ.unk⟩ : Ren) = ρ2
  have b2 : ∀ e, ρ2.blk e = if it.m ≤ e ∧ e < oh.length then ρ'.blk e else ρ.blk e := fun e => by rw [← hρ2]
  have bnew : ∀ e, it.m ≤ e → e < oh.length → ρ2.blk e = ρ'.blk e := fun e h1 h2 => by rw [b2, if_pos ⟨h1, h2⟩]
  have bold : ∀ e, ¬ (it.m ≤ e ∧ e < oh.length) → ρ2.blk e = ρ.blk e := fun e h1 => by rw [b2, if_neg h1]
  have bren : ∀ e, e < it.m → ρ'.blk e = ρ.blk e := fun e h1 => F'.ren e h1
  have blow : ∀ e, e < oh.length → ρ2.blk e = ρ'.blk e := fun e h1 => by
    rcases Nat.lt_or_ge e it.m with h2 | h2
    · rw [bold e (by omega), bren e h2]
    · exact bnew e h2 h1
  have bok : ∀ b, okN ops (D.take i) h.length i it.m (it.m + it.nw.length) b = true → ρ2.blk b = ρ'.blk b := fun b hb => blow b (by have := H.ok_lt hi hb; omega)
  have bfar : ∀ b, okS D S h.length b → ρ2.blk b = ρ.blk b := fun b hb => bold b (by have := H.okS_far hS hi hb; rw [hM] at this; exact this)
  -- names of entries that stay
  have within : ∀ (e : Nat) (B : Blk), (effs S 0 D h)[e]? = some (some B) → ∃ p : Nat → Bool, B.within p = true ∧ ∀ b, p b = true → ρ2.blk b = ρ.blk b := fun e B he => by
    rcases H.entry (W := S) (fun _ _ _ _ => .inr trivial) RH0.sco (List.prefix_refl D) he with h5 | ⟨k, kt, _, h6, h7, h8⟩
    · exact ⟨_, Blk.within_of B h5, fun b hb => bfar b (.inl (by simpa using hb))⟩
    · exact ⟨_, h8, fun b hb => bfar b (H.okS_of hC h6 h7 hb)⟩
  -- kinds of entries
  have kind : ∀ (e : Nat) (B : Blk), (effs (fun k => S k || k == i) 0 D h)[e]? = some (some B) →
      (∃ q, (e, some B) ∈ it.chg ∧ e < it.m ∧ (i, e, q) ∈ olds ∧ oh[e]? = some (some B) ∧ ∃ C, (effs S 0 D h)[e]? = some (some C)) ∨ (it.m ≤ e ∧ e < oh.length ∧ some B ∈ it.nw ∧ oh[e]? = some (some B)) ∨ ((effs S 0 D h)[e]? = some (some B) ∧ it.key e = false ∧ ¬ (it.m ≤ e ∧ e < oh.length)) := fun e B he => by
    cases hke : it.key e with
    | true =>
      obtain ⟨p, hp, hpe⟩ := List.any_eq_true.1 hke
      rw [beq_iff_eq] at hpe
      subst hpe
      obtain ⟨k1, k2, ⟨q, k3⟩, k4⟩ := H.key hi hke
      have h1 := A1 p.1 p.2 hp
      rw [he] at h1
      have h2 : some B = p.2 := Option.some.inj h1
      have h3 := hval p hp
      rw [← h2] at h3
      refine .inl ⟨q, by rw [h2]; exact hp, k2, k3, ?_, ?_⟩
      · cases hx : oh[p.1]? with
        | none => rw [hx] at h3; cases h3
        | some X => rw [hx] at h3; simp only [Option.join_some] at h3; rw [← h3]
      · unfold liveB at k4
        split at k4
        · rename_i B' hB'
          obtain ⟨C, _, h5, _⟩ := H.sees hC hS hW hB'
          exact ⟨C, h5⟩
        · cases k4
    | false =>
      by_cases hr : it.m ≤ e ∧ e < oh.length
      · obtain ⟨h1, _⟩ := A2 e hr.1 hr.2
        rw [he] at h1
        refine .inr (.inl ⟨hr.1, hr.2, List.mem_of_getElem? h1.symm, ?_⟩)
        rw [hnw, List.getElem?_drop, show it.m + (e - it.m) = e by omega] at h1
        exact h1.symm
      · have h1 := A3 e hke (by omega)
        exact .inr (.inr (And.intro (h1.symm.trans he) (And.intro rfl hr)))
  have slw : ∀ e, lw ⟨ρ.blk, u⟩ (seeH c.L ops olds (D.take i) i h) e → lw ρ (effs S 0 D h) e ∧ (lim ≤ e → it.key e = true) := fun e he => by
    obtain ⟨B', h1, h2, h3⟩ := he
    obtain ⟨B, _, h5, h6⟩ := H.sees hC hS hW h1
    rcases h6 with ⟨rfl, h6⟩ | h6
    · refine ⟨⟨_, h5, h2, h3⟩, fun hl => ?_⟩
      rcases h6 with h6 | ⟨q, h6⟩
      · omega
      · exact hdecl e q h6 (by omega) (by have := lt_len h1; omega)
    · obtain ⟨cs, ty, own, _, rfl⟩ := roB_some h6
      cases h2
  have same : ∀ e, lv ρ (effs S 0 D h) e → it.key e = false → w'.heap[(ρ.blk e).n]? = w.heap[(ρ.blk e).n]? := fun e he hk => by
    refine F'.blk _ (I.H.lt he) fun j hj hlwj hn => ?_
    obtain ⟨h1, h2⟩ := slw j hlwj
    have := I.H.inj j e h1 he hn
    subst this
    rw [h2 hj] at hk
    cases hk
  -- what lies behind a new name
  have fresh : ∀ e, it.m ≤ e → lw ρ' oh e → w.heap.size ≤ (ρ'.blk e).n ∨ ∃ j, lim ≤ j ∧ lw ρ (effs S 0 D h) j ∧ it.key j = true ∧ (ρ'.blk e).n = (ρ.blk j).n := fun e h1 h2 => by
    rcases F'.fresh e h1 h2 with h3 | ⟨j, h3, h4, h5⟩
    · exact .inl h3
    · obtain ⟨h6, h7⟩ := slw j h4
      exact .inr ⟨j, h3, h6, h7 h3, h5⟩
  have hRH : RelH c ρ2 (effs (fun k => S k || k == i) 0 D h) w' := by
    refine ⟨fun e B he => ?_, fun x y hx hy hxy => ?_, fun e B he => ?_, fun p hp => ?_, ?_, fun e he => ?_⟩
    · rcases kind e B he with ⟨q, k1, k2, k3, k4, _⟩ | ⟨k1, k2, k3, k4⟩ | ⟨k1, k2, k3⟩
      · rw [blow e (by omega)]
        exact (RH'.cell e B k4).moveIn (hok.turned _ k1 B rfl) bok (fun _ => rfl)
      · rw [bnew e k1 k2]
        exact (RH'.cell e B k4).moveIn (hok.news B k3).1 bok (fun _ => rfl)
      · obtain ⟨p, p1, p2⟩ := within e B k1
        rw [bold e k3]
        exact (I.H.cell e B k1).moveIn p1 p2 fun hn => same e ⟨B, k1, hn⟩ k2
    · obtain ⟨B, x1, x2, x3⟩ := hx
      obtain ⟨C, y1, y3⟩ := hy
      rcases kind x B x1 with ⟨q, k1, k2, k3, k4, X, k5⟩ | ⟨k1, k2, k3, k4⟩ | ⟨k1, k2, k3⟩
      · -- x was turned
        rw [blow x (by omega)] at x3 hxy
        have hlx : lw ρ' oh x := ⟨B, k4, x2, x3⟩
        have hlx0 : lw ρ (effs S 0 D h) x := (slw x (F'.dead x k2 hlx)).1
        rw [bren x k2] at hxy
        rcases kind y C y1 with ⟨q', j1, j2, j3, j4, Y, j5⟩ | ⟨j1, j2, j3, j4⟩ | ⟨j1, j2, j3⟩
        · rw [blow y (by omega)] at y3 hxy
          exact RH'.inj x y hlx ⟨C, j4, y3⟩ (by rw [bren x k2]; exact hxy)
        · rw [bnew y j1 j2] at y3 hxy
          exact RH'.inj x y hlx ⟨C, j4, y3⟩ (by rw [bren x k2]; exact hxy)
        · rw [bold y j3] at y3 hxy
          exact I.H.inj x y hlx0 ⟨C, j1, y3⟩ hxy
      · -- x is new
        rw [bnew x k1 k2] at x3 hxy
        have hlx : lw ρ' oh x := ⟨B, k4, x2, x3⟩
        rcases kind y C y1 with ⟨q', j1, j2, j3, j4, Y, j5⟩ | ⟨j1, j2, j3, j4⟩ | ⟨j1, j2, j3⟩
        · rw [blow y (by omega)] at y3 hxy
          exact RH'.inj x y hlx ⟨C, j4, y3⟩ hxy
        · rw [bnew y j1 j2] at y3 hxy
          exact RH'.inj x y hlx ⟨C, j4, y3⟩ hxy
        · exfalso
          rw [bold y j3] at y3 hxy
          have hly : lv ρ (effs S 0 D h) y := ⟨C, j1, y3⟩
          rcases fresh x k1 hlx with h3 | ⟨j, _, h4, h5, h6⟩
          · have := I.H.lt hly; omega
          · have := I.H.inj j y h4 hly (h6.symm.trans hxy)
            subst this
            rw [h5] at j2
            cases j2
      · -- x stays
        rw [bold x k3] at x3 hxy
        have hlx : lw ρ (effs S 0 D h) x := ⟨B, k1, x2, x3⟩
        rcases kind y C y1 with ⟨q', j1, j2, j3, j4, Y, j5⟩ | ⟨j1, j2, j3, j4⟩ | ⟨j1, j2, j3⟩
        · rw [bold y (by omega)] at y3 hxy
          exact I.H.inj x y hlx ⟨Y, j5, y3⟩ hxy
        · exfalso
          rw [bnew y j1 j2] at y3 hxy
          have hly : lw ρ' oh y := ⟨C, j4, (hok.news C j3).2, y3⟩
          rcases fresh y j1 hly with h3 | ⟨j, _, h4, h5, h6⟩
          · have := I.H.lt hlx.lv; omega
          · have := I.H.inj x j hlx h4.lv (hxy.trans h6)
            subst this
            rw [h5] at k2
            cases k2
        · rw [bold y j3] at y3 hxy
          exact I.H.inj x y hlx ⟨C, j1, y3⟩ hxy
    · rw [effs_len]
      rcases kind e B he with ⟨q, k1, _⟩ | ⟨k1, k2, k3, k4⟩ | ⟨k1, k2, k3⟩
      · refine Blk.under_of _ (Blk.within_mono (fun b hb => ?_) _ (hok.turned _ k1 B rfl))
        have := H.ok_lt hi hb
        simp only [decide_eq_true_eq]; omega
      · refine Blk.under_of _ (Blk.within_mono (fun b hb => ?_) _ (hok.news B k3).1)
        have := H.ok_lt hi hb
        simp only [decide_eq_true_eq]; omega
      · have := I.H.sco e B k1
        rw [effs_len] at this
        exact this
    · obtain ⟨g1, g2, g3⟩ := RH0.glob p hp
      have hb : ρ2.blk p.2 = ρ0.blk p.2 := by rw [bold _ (by omega), I.F.ren _ g3]
      refine ⟨by rw [hb, g1], by rw [hb, g2], ?_⟩
      rw [effs_len]
      have := grown_ge D h.length
      omega
    · rw [effs_len]
      have := grown_ge D h.length
      have := RH0.big
      omega
    · have hke : it.key e = false := by
        cases hke : it.key e with
        | false => rfl
        | true => have := (H.key hi hke).1; omega
      have hbig := RH0.big
      rw [A3 e hke (by omega)]
      exact I.H.base e he
  have hF : Fr lim h.length ρ (effs S 0 D h) w ρ2 (effs (fun k => S k || k == i) 0 D h) w' := by
    refine ⟨F'.os, F'.tape, F'.output, F'.size, fun k hk hn => F'.blk k hk fun j hj hlwj => hn j hj (slw j hlwj).1, fun e he => bold e (by omega), ?_, fun e he hl => ?_, fun e he hl => ?_⟩
    · rw [effs_len]; exact grown_ge _ _
    · obtain ⟨B, x1, x2, x3⟩ := hl
      rcases kind e B x1 with ⟨q, k1, k2, k3, k4, X, k5⟩ | ⟨k1, k2, k3, k4⟩ | ⟨k1, k2, k3⟩
      · rw [blow e (by omega)] at x3
        have hlx0 := (slw e (F'.dead e k2 ⟨B, k4, x2, x3⟩)).1
        exact .inr ⟨e, by omega, hlx0, by rw [blow e (by omega), bren e k2]⟩
      · rw [bnew e k1 k2] at x3 ⊢
        rcases fresh e k1 ⟨B, k4, x2, x3⟩ with h3 | ⟨j, h3, h4, _, h6⟩
        · exact .inl h3
        · exact .inr ⟨j, h3, h4, h6⟩
      · rw [bold e k3] at x3 ⊢
        exact .inr ⟨e, by omega, ⟨B, k1, x2, x3⟩, rfl⟩
    · obtain ⟨B, x1, x2, x3⟩ := hl
      rcases kind e B x1 with ⟨q, k1, k2, k3, k4, X, k5⟩ | ⟨k1, k2, k3, k4⟩ | ⟨k1, k2, k3⟩
      · rw [blow e (by omega)] at x3
        exact (slw e (F'.dead e k2 ⟨B, k4, x2, x3⟩)).1
      · omega
      · rw [bold e k3] at x3
        exact ⟨B, k1, x2, x3⟩
  refine ⟨ρ2, by rw [← hρ2]; exact I.unk, by rw [put_defers]; exact I.defers, ?_, hRH, I.F.trans hF⟩
  -- the slots
  have hslots : slotsAt ops (fun k => S k || k == i) 0 D t = putT (slotsAt ops S 0 D t) o.dst v := by
    have hdst : dstAt ops i = o.dst := by simp [dstAt, ho]
    apply List.ext_getElem?
    intro s
    rcases Nat.lt_or_ge s t.length with hs | hs
    · by_cases hds : dstAt ops i = some s
      · rw [slotsAt_at (fun i j h5 h6 => H.once i j s h5 h6) D 0 t i it hi (by simp) (by rw [Nat.zero_add]; exact hds) hs, ← hdst, hds]
        simp only [putT, setR_eq]
        rw [List.getElem?_set_self (by rw [slotsAt_len]; exact hs), hv]
      · rw [putT_other (by rw [← hdst]; exact hds)]
        by_cases hex : ∃ k, k < D.length ∧ S k = true ∧ dstAt ops k = some s
        · obtain ⟨k, k1, k2, k3⟩ := hex
          rw [slotsAt_at (fun i j h5 h6 => H.once i j s h5 h6) D 0 t k D[k] (List.getElem?_eq_getElem k1) (by simp [k2]) (by rw [Nat.zero_add]; exact k3) hs, slotsAt_at (fun i j h5 h6 => H.once i j s h5 h6) D 0 t k D[k] (List.getElem?_eq_getElem k1) (by simp [k2]) (by rw [Nat.zero_add]; exact k3) hs]
        · rw [slotsAt_un D 0 t fun k k1 k2 k3 => ?_, slotsAt_un D 0 t fun k k1 k2 k3 => ?_]
          · rw [Nat.zero_add] at k2 k3
            exact hex ⟨k, k1, k2, k3⟩
          · rw [Nat.zero_add] at k2 k3
            simp only [Bool.or_eq_true, beq_iff_eq] at k2
            rcases k2 with k2 | rfl
            · exact hex ⟨k, k1, k2, k3⟩
            · exact hds k3
    · rw [List.getElem?_eq_none (by rw [slotsAt_len]; exact hs), List.getElem?_eq_none (by rw [putT_len, slotsAt_len]; exact hs)]
  rw [hslots]
  have hvc : v.conc ρ' = v.conc ρ2 := by
    rw [← hv]
    exact (V.conc_in bok _ hok.val).symm
  rw [hvc]
  have hold : concs ρ2 (slotsAt ops S 0 D t) = concs ρ (slotsAt ops S 0 D t) := by
    rw [concs_map, concs_map]
    refine List.map_congr_left fun x hx => ?_
    rcases mem_slotsAt D 0 t hx with h1 | ⟨k, kt, h1, h2, rfl⟩
    · exact V.slotIn_conc (p := fun b => decide (b < h.length)) (fun b hb => bfar b (.inl (by simpa using hb))) (by rw [← hρ2]) x (V.slotIn_of _ (R0.sco x h1))
    · rw [Nat.zero_add] at h2
      obtain ⟨_, _, h3⟩ := H.of h1
      exact V.conc_in (fun b hb => bfar b (H.okS_of hC h1 h2 hb)) _ h3.val
  have hT : RelT ρ2 (grown D h.length) (slotsAt ops S 0 D t) a := ⟨by rw [hold]; exact I.T.tmps, I.T.sco⟩
  refine relT_put hT (fun _ _ => rfl) rfl (Nat.le_refl _) (V.slot_of_under _ (V.under_of _ (V.within_mono (fun b hb => ?_) _ (by rw [← hv]; exact hok.val)))) o.dst
  have := H.ok_lt hi hb
  simp only [decide_eq_true_eq]; omega
end
end
end Go.Proofs.Ytcibaankajfhlaa.E2
end
section
namespace Go.Proofs.Ytcibaankajfhlaa.E2
open Go Go.RowKit
noncomputable section
section
variable {c : Cfg} {cf : CF} {lim : Nat} {ops : Array Oper} {olds : Olds} {h : Heap} {t : List V}
theorem told_of {ans : List Ans} {d : DROut} (he : evD c cf lim ops olds h (hideT ops t, t) 0 [] h.length ops.toList ans = some d) (hc : ∀ p ∈ d.cons, p) (hs : shapeB ops t.length olds = true) : Told c cf lim ops olds h t d.its := by
  obtain ⟨_, h2, h3⟩ := evD_ok ops.toList 0 [] h.length ans d he hc rfl rfl fun k o hk => by rw [Nat.zero_add, ← Array.getElem?_toList]; exact hk
  simp only [shapeB, Bool.and_eq_true] at hs
  obtain ⟨s1, s2⟩ := hs
  have at1 : ∀ (i : Nat) (o : Oper), ops[i]? = some o → (o.after.all fun e => !Region.binds .any e || decide (e.on < i)) = true ∧ (match o.dst with
        | some d => decide (d < t.length)
        | none => true) = true ∧ ∀ (j : Nat) (p : Oper), ops[j]? = some p → i = j ∨ (o.dst.isNone || o.dst != p.dst) = true := fun i o ho => by
    have := List.all_eq_true.1 s1 i (List.mem_range.2 (itm_lt ho))
    rw [ho] at this
    simp only [Bool.and_eq_true] at this
    refine ⟨this.1.1, this.1.2, fun j p hp => ?_⟩
    have h4 := List.all_eq_true.1 this.2 j (List.mem_range.2 (itm_lt hp))
    rw [hp] at h4
    simp only [Bool.or_eq_true, beq_iff_eq] at h4 ⊢
    rcases h4 with h4 | h4
    · exact .inl h4
    · exact .inr h4
  refine ⟨by rw [h2, Nat.zero_add, Array.length_toList], fun i o ho => ?_, fun i o ho e he hb => ?_, fun i s hi => ?_, fun i j s hi hj => ?_, fun p hp q hq e1 e2 => ?_⟩
  · have := h3 i o (by rw [Array.getElem?_toList]; exact ho)
    rw [Nat.zero_add] at this
    exact this
  · have := Array.all_eq_true'.1 (at1 i o ho).1 e he
    simpa [hb] using this
  · unfold dstAt at hi
    obtain ⟨o, ho, hd⟩ := Option.bind_eq_some_iff.1 hi
    have := (at1 i o ho).2.1
    rw [hd] at this
    simpa using this
  · unfold dstAt at hi hj
    obtain ⟨o, ho, hd⟩ := Option.bind_eq_some_iff.1 hi
    obtain ⟨p, hp, hd'⟩ := Option.bind_eq_some_iff.1 hj
    rcases (at1 i o ho).2.2 j p hp with h4 | h4
    · exact h4
    · simp [hd, hd'] at h4
  · have := List.all_eq_true.1 (List.all_eq_true.1 s2 p hp) q hq
    simpa [e1, e2] using this
def up (listed : Array Bool) (k : Nat) : Bool := listed[k]? == some true
theorem up_set {listed : Array Bool} {i : Nat} (hi : listed[i]? = some false) (k : Nat) : up (listed.setIfInBounds i true) k = (up listed k || k == i) := by
  have hl : i < listed.size := (Array.getElem?_eq_some_iff.1 hi).1
  unfold up
  rw [Array.getElem?_setIfInBounds]
  by_cases hk : i = k
  · subst hk; simp [hl]
  · have : ¬ k = i := fun e => hk e.symm
    simp [hk, this]
theorem slotsAt_congr {S T : Nat → Bool} : ∀ (l : List DIt) (j : Nat) (t : List V), (∀ k, j ≤ k → k < j + l.length → S k = T k) → slotsAt ops S j l t = slotsAt ops T j l t
  | [], j, t, _ => rfl
  | it :: l, j, t, h => by
    show slotsAt ops S (j + 1) l _ = slotsAt ops T (j + 1) l _
    rw [h j (Nat.le_refl _) (by simp), slotsAt_congr l (j + 1) _ fun k h1 h2 => h k (by omega) (by simp only [List.length_cons]; omega)]
theorem wpAny_told {D : List DIt} {r : Option Nat} {ρ0 : Ren} {a0 : Act} {w0 : World} {Q : Exit → Act → World → Prop} (hcf : CallOk c cf) (hfn : ∀ f, c.fns f = true → Callable c.P f) (H : Told c cf lim ops olds h t D) (hL : c.L ≤ lim) (hlh : lim ≤ h.length) (RH0 : RelH c ρ0 h w0) (R0 : RelT ρ0 h.length t a0)
    (hend : ∀ ρ a w, Inv c lim ops h t D ρ0 a0 w0 (fun _ => true) a w ρ → Q .normal a w) :
    ∀ (fuel : Nat) (listed : Array Bool) (a : Act) (w : World) (ρ : Ren), listed.size = ops.size → Closed ops (up listed) → Inv c lim ops h t D ρ0 a0 w0 (up listed) a w ρ → left listed ≤ fuel → wpAnyIn (FW r) 0 c.P .any ops Q fuel listed a w := by
  have done : ∀ (listed : Array Bool) (a : Act) (w : World) (ρ : Ren), listed.size = ops.size → Inv c lim ops h t D ρ0 a0 w0 (up listed) a w ρ → Region.ready .any ops listed = [] → Q .normal a w := fun listed a w ρ hsz I hr => by
    have hall := all_of_ready H.back hsz hr
    have hS : ∀ k, k < D.length → up listed k = true := fun k hk => by simp [up, hall k (by rw [← H.len]; exact hk)]
    have e1 : effs (fun _ => true) 0 D h = effs (up listed) 0 D h := effs_congr D 0 h fun k _ hk => (hS k (by omega)).symm
    have e2 : slotsAt ops (fun _ => true) 0 D t = slotsAt ops (up listed) 0 D t := slotsAt_congr D 0 t fun k _ hk => (hS k (by omega)).symm
    exact hend ρ a w ⟨I.unk, I.defers, by rw [e2]; exact I.T, by rw [e1]; exact I.H, by rw [e1]; exact I.F⟩
  intro fuel
  induction fuel with
  | zero =>
    intro listed a w ρ hsz hC I hc
    have hr : Region.ready .any ops listed = [] := by
      rcases hrd : Region.ready .any ops listed with _ | ⟨i, l⟩
      · rfl
      · exfalso
        obtain ⟨o, ho, hf, _⟩ := ready_spec hsz (i := i) (by rw [hrd]; exact List.mem_cons_self)
        have := left_set hf
        omega
    exact ⟨hr, done listed a w ρ hsz I hr⟩
  | succ fuel ih =>
    intro listed a w ρ hsz hC I hc
    refine ⟨done listed a w ρ hsz I, fun i hi => ?_⟩
    obtain ⟨o, ho, hf, haft⟩ := ready_spec hsz hi
    obtain ⟨it, hit, hok⟩ := H.it i o ho
    have hcount := left_set hf
    have hS : up listed i = false := by simp [up, hf]
    have hW : ∀ j, waitsB ops i j = true → up listed j = true := fun j hw => by
      unfold waitsB waitsN at hw
      rw [ho] at hw
      obtain ⟨e, he, hb⟩ := List.any_eq_true.1 hw
      rw [Bool.and_eq_true, Bool.or_eq_true, beq_iff_eq] at hb
      have h1 : up listed e.on = true := by simp [up, haft e (Array.mem_toList_iff.1 he) hb.1]
      rcases hb.2 with h2 | h2
      · rw [← h2]; exact h1
      · exact hC e.on j h1 (waitsN_mono 11 ops e.on j h2)
    have hS' : up (listed.setIfInBounds i true) = fun k => up listed k || k == i := funext (up_set hf)
    have hC' : Closed ops (up (listed.setIfInBounds i true)) := fun x y hx hxy => by
      rw [hS'] at hx ⊢
      simp only [Bool.or_eq_true, beq_iff_eq] at hx ⊢
      rcases hx with hx | rfl
      · exact .inl (hC x y hx hxy)
      · exact .inl (hW y hxy)
    have next : ∀ (a' : Act) (w' : World), (∃ ρ2, Inv c lim ops h t D ρ0 a0 w0 (fun k => up listed k || k == i) a' w' ρ2) → wpAnyIn (FW r) 0 c.P .any ops Q fuel (listed.setIfInBounds i true) a' w' := fun a' w' ⟨ρ2, I'⟩ =>
      ih _ a' w' ρ2 (by simp [hsz]) hC' (by rw [hS']; exact I') (by omega)
    have flag : ∀ (j : Nat) (jt : DIt) (x : Value), waitsB ops i j = true → (dstAt ops j).isSome = true → (D.take i)[j]? = some jt → jt.v = .raw x → yielded ops a.tmps j = (match x with
      | .bool b => some b
      | _ => none) := fun j jt x hw hd hj hv => by
      obtain ⟨d, hd⟩ := Option.isSome_iff_exists.1 hd
      have hj' : D[j]? = some jt := by
        rw [List.getElem?_take] at hj
        split at hj
        · exact hj
        · cases hj
      have hat := slotsAt_at (S := up listed) (fun x y h5 h6 => H.once x y d h5 h6) D 0 t j jt hj' (by rw [Nat.zero_add]; exact hW j hw) (by rw [Nat.zero_add]; exact hd) (H.dst j d hd)
      have hy : a.tmps[d]? = some x := by
        rw [I.T.tmps, List.getElem?_toArray, concs_get, hat, hv]; rfl
      have hd' : (ops[j]?).bind (·.dst) = some d := hd
      unfold yielded
      rw [hd']
      show (match a.tmps[d]? with
        | some (.bool b) => some b
        | _ => none) = _
      rw [hy]
      cases x <;> rfl
    unfold wpOpIn
    rw [ho]
    dsimp only
    rcases hok.run with ⟨T, ans, q, hT, h1, h2, h3, h4, h5, h6, h7, h8⟩ | ⟨h1, h2, h3, j, want, jt, x, h4, h5, h6, h7, h8, h9⟩
    · have hw : Region.wanted o (yielded ops a.tmps) = true := by
        unfold Region.wanted
        rcases h8 with h8 | ⟨j, want, jt, b, g1, g2, g3, g4, g5, g6⟩
        · rw [h8]
        · rw [g1]
          simp only
          rw [flag j jt (.bool b) g2 g3 g4 g5]
          simpa using g6
      rw [hw, if_pos rfl]
      obtain ⟨RHs, hslen⟩ := H.seesH hC hL hlh RH0 I hit hS hW (fun s => a.tmps.getD s undef)
      have RTs := H.seesT R0 I ho hit hC hS hW hT
      rw [← hslen] at RTs
      refine evOpW_sound hcf hfn h1 h2 RHs RTs hL (by rw [hslen, hok.m]; exact Nat.le_trans hlh (grown_ge _ _)) fun ρ' w' e1 e2 e3 e4 => next _ _ ?_
      rw [hslen] at e3
      exact H.step hC hL hlh RH0 R0 I ho hit hS hW h3 h4 h5 h6 h7 e2 e3
    · have hw : ¬ Region.wanted o (yielded ops a.tmps) = true := by
        unfold Region.wanted
        rw [h4]
        simp only
        rw [flag j jt x h5 h6 h7 h8]
        rcases h9 with ⟨b, rfl, h9⟩ | ⟨l, rfl⟩
        · simpa using h9
        · simp
      rw [if_neg hw]
      refine ⟨fun _ _ => trivial, next _ _ ?_⟩
      obtain ⟨RHs, hslen⟩ := H.seesH hC hL hlh RH0 I hit hS hW (fun s => a.tmps.getD s undef)
      -- as an operation that leaves all as it is
      obtain ⟨A1, A2, A3⟩ := H.after hC hS hit
      have hsame : ∀ e, (effs (fun k => up listed k || k == i) 0 D h)[e]? = (effs (up listed) 0 D h)[e]? := fun e => A3 e (by simp [DIt.key, h2]) (by rw [h3]; simp; omega)
      have he : effs (fun k => up listed k || k == i) 0 D h = effs (up listed) 0 D h := List.ext_getElem? hsame
      refine ⟨ρ, I.unk, by rw [put_defers]; exact I.defers, ?_, by rw [he]; exact I.H, by rw [he]; exact I.F⟩
      have hslots : slotsAt ops (fun k => up listed k || k == i) 0 D t = putT (slotsAt ops (up listed) 0 D t) o.dst (.raw undef) := by
        have hdst : dstAt ops i = o.dst := by simp [dstAt, ho]
        apply List.ext_getElem?
        intro s
        rcases Nat.lt_or_ge s t.length with hs | hs
        · by_cases hds : dstAt ops i = some s
          · rw [slotsAt_at (fun x y h5 h6 => H.once x y s h5 h6) D 0 t i it hit (by simp) (by rw [Nat.zero_add]; exact hds) hs, ← hdst, hds]
            simp only [putT, setR_eq]
            rw [List.getElem?_set_self (by rw [slotsAt_len]; exact hs), h1]
          · rw [putT_other (by rw [← hdst]; exact hds)]
            by_cases hex : ∃ k, k < D.length ∧ up listed k = true ∧ dstAt ops k = some s
            · obtain ⟨k, k1, k2, k3⟩ := hex
              rw [slotsAt_at (fun x y h5 h6 => H.once x y s h5 h6) D 0 t k D[k] (List.getElem?_eq_getElem k1) (by simp [k2]) (by rw [Nat.zero_add]; exact k3) hs, slotsAt_at (fun x y h5 h6 => H.once x y s h5 h6) D 0 t k D[k] (List.getElem?_eq_getElem k1) (by simp [k2]) (by rw [Nat.zero_add]; exact k3) hs]
            · rw [slotsAt_un D 0 t fun k k1 k2 k3 => ?_, slotsAt_un D 0 t fun k k1 k2 k3 => ?_]
              · rw [Nat.zero_add] at k2 k3
                exact hex ⟨k, k1, k2, k3⟩
              · rw [Nat.zero_add] at k2 k3
                simp only [Bool.or_eq_true, beq_iff_eq] at k2
                rcases k2 with k2 | rfl
                · exact hex ⟨k, k1, k2, k3⟩
                · exact hds k3
        · rw [List.getElem?_eq_none (by rw [slotsAt_len]; exact hs), List.getElem?_eq_none (by rw [putT_len, slotsAt_len]; exact hs)]
      rw [hslots]
      exact relT_put I.T (fun _ _ => rfl) rfl (Nat.le_refl _) (v := .raw undef) rfl o.dst
theorem evDrawn_sound {r : Option Nat} (hm : c.P.follows .mixedOrders = true) (hcf : CallOk c cf) (hfn : ∀ f, c.fns f = true → Callable c.P f) (hL : c.L ≤ lim) (hlh : lim ≤ h.length) {id : Nat} {Q : Exit → Act → World → Prop}
    {ans : List Ans} {q : ROut} {ρ : Ren} {a : Act} {w : World} (he : evDrawn c cf lim ops t h ans = some q) (hc : ∀ p ∈ q.cons, p) (RH : RelH c ρ h w) (RT : RelT ρ h.length t a)
    (hQ : ∀ ρ' a' w', ρ'.unk = ρ.unk → a'.defers = a.defers → RelT ρ' q.h.length q.t a' → RelH c ρ' q.h w' → Fr lim h.length ρ h w ρ' q.h w' → Q .normal a' w') : (Code.region id ops true).wpIn (FW r) 0 c.P Q a w := by
  unfold evDrawn at he
  split at he
  · rename_i olds0 ans0 hol
    split at he
    · rename_i hs
      split at he
      · rename_i d hd
        simp only [Option.some.injEq] at he
        subst he
        rw [hideQ_eq] at hd
        have H := told_of hd hc (shapeQ_ok hs)
        have RHd : RelH c ρ h w.drew := ⟨fun i B hi => (RH.cell i B hi).move (RH.sco i B hi) (fun _ _ => rfl) (fun _ => rfl), RH.inj, RH.sco, RH.glob, RH.big, RH.base⟩
        refine wpIn_region_any hm (wpAny_told (ρ0 := ρ) (a0 := a) hcf hfn H hL hlh RHd RT (fun ρ' a' w' I => ?_) _ _ _ _ ρ (by simp) ?_ ?_ (by simp [left]))
        · refine hQ ρ' a' w' I.unk I.defers (by rw [effs_len]; exact I.T) I.H ?_
          have F := I.F
          exact ⟨F.os, F.tape, F.output, F.size, F.blk, F.ren, F.len, F.fresh, F.dead⟩
        · intro i j hi _
          simp only [up, Array.getElem?_replicate] at hi
          split at hi <;> simp at hi
        · have no : ∀ k, up (Array.replicate ops.size false) k = false := fun k => by
            simp only [up, Array.getElem?_replicate]
            split <;> simp
          have gen : ∀ (l : List DIt) (j : Nat) (A : Heap) (ρ0 : Ren), RelH c ρ0 A w.drew → RelH c ρ0 (effs (up (Array.replicate ops.size false)) j l A) w.drew ∧ ∀ (e : Nat) (B : Blk), (effs (up (Array.replicate ops.size false)) j l A)[e]? = some (some B) → A[e]? = some (some B) := by
            intro l
            induction l with
            | nil => intro j A ρ0 hA; exact ⟨hA, fun _ _ h => h⟩
            | cons it l ih =>
              intro j A ρ0 hA
              have e0 : effs (up (Array.replicate ops.size false)) j (it :: l) A = effs (up (Array.replicate ops.size false)) (j + 1) l (effNo it A) := by
                show effs _ (j + 1) l (if up (Array.replicate ops.size false) j = true then effOne it A else effNo it A) = _
                rw [no]; rfl
              rw [e0]
              have back : ∀ {e : Nat} {B : Blk}, (effNo it A)[e]? = some (some B) → A[e]? = some (some B) := fun {e B} hB => by
                rcases Nat.lt_or_ge e A.length with hlt | hge
                · rwa [show effNo it A = A ++ _ from rfl, List.getElem?_append_left hlt] at hB
                · rw [show effNo it A = A ++ _ from rfl, List.getElem?_append_right hge, List.getElem?_map] at hB
                  cases hx : it.nw[e - A.length]? with
                  | none => rw [hx] at hB; cases hB
                  | some x => rw [hx] at hB; cases hB
              have hA' : RelH c ρ0 (effNo it A) w.drew := by
                refine ⟨fun e B hB => hA.cell e B (back hB), fun x y hx hy e => ?_, fun e B hB => Blk.under_mono (by rw [effNo_len]; omega) _ (hA.sco e B (back hB)), fun p hp => ?_, by rw [effNo_len]; have := hA.big; omega, fun e he => ?_⟩
                · obtain ⟨B, x1, x2⟩ := hx
                  obtain ⟨C, y1, y2⟩ := hy
                  exact hA.inj x y ⟨B, back x1, x2⟩ ⟨C, back y1, y2⟩ e
                · obtain ⟨g1, g2, g3⟩ := hA.glob p hp
                  exact ⟨g1, g2, by rw [effNo_len]; omega⟩
                · have := hA.big
                  rw [show effNo it A = A ++ _ from rfl, List.getElem?_append_left (by omega)]
                  exact hA.base e he
              obtain ⟨i1, i2⟩ := ih (j + 1) (effNo it A) ρ0 hA'
              exact ⟨i1, fun e B hB => back (i2 e B hB)⟩
          obtain ⟨G1, G2⟩ := gen d.its 0 h ρ RHd
          have hsl : slotsAt ops (up (Array.replicate ops.size false)) 0 d.its t = t := by
            apply List.ext_getElem?
            intro s
            exact slotsAt_un d.its 0 t fun k _ hk => by rw [no] at hk; cases hk
          refine ⟨rfl, rfl, ?_, G1, ?_⟩
          · rw [hsl]
            exact ⟨RT.tmps, fun x hx => V.slotOk_mono (grown_ge _ _) x (RT.sco x hx)⟩
          · refine ⟨rfl, rfl, rfl, Nat.le_refl _, fun _ _ _ => rfl, fun _ _ => rfl, by rw [effs_len]; exact grown_ge _ _, fun e h1 h2 => ?_, fun e _ h2 => ?_⟩
            · obtain ⟨B, x1, x2⟩ := h2
              have := lt_len (G2 e B x1)
              omega
            · obtain ⟨B, x1, x2⟩ := h2
              exact ⟨B, G2 e B x1, x2⟩
      · cases he
    · cases he
  · cases he
end
end
end Go.Proofs.Ytcibaankajfhlaa.E2
end
section
namespace Go.Proofs.Ytcibaankajfhlaa.E2
open Go Go.RowKit
noncomputable section
def rndOf (ρ : Ren) (rnd : Option Nat) : Option Nat := rnd.map fun b => (ρ.blk b).n
def markOf (D : Nat) : Deferred := { target := .collected D, args := #[] }
def Marks (w0 w : World) (ms : List Deferred) : Prop := ∃ Ds : List Nat, ms = Ds.map markOf ∧ Ds.Nodup ∧ ∀ D ∈ Ds, w0.heap.size ≤ D ∧ w.heap[D]? = some (.deferred (some []))
def Runs (c : Cfg) (lim n : Nat) (rnd : Option Nat) (code : Code) (t : List V) (h : Heap) (e : Ex) (t' : List V) (h' : Heap) : Prop :=
  ∀ ρ a w, RelT ρ h.length t a → RelH c ρ h w → code.wpIn (FW (rndOf ρ rnd)) 0 c.P (fun x a' w' => x = e.to ∧ ∃ ρ' ms, a'.defers = ms ++ a.defers ∧ Marks w w' ms ∧ RelT ρ' h'.length t' a' ∧ RelH c ρ' h' w' ∧ Fr lim n ρ h w ρ' h' w') a w
def Meets (c : Cfg) (lim : Nat) (f : FuncId) (args : List V) (h : Heap) (v : V) (h' : Heap) : Prop :=
  ∀ ρ w, RelH c ρ h w → unders h.length args = true → Calls c.P f (concs ρ args).toArray w (Post c lim ρ h w v h')
def Ret (c : Cfg) (f : FuncId) (args : List V) (v : V) : Prop := ∀ h lim, c.L ≤ lim → lim ≤ h.length → Meets c lim f args h v h
structure COut where
  e : Ex
  t : List V
  h : Heap
  ans : List Ans
  cons : List Prop
def iter (body : List V → Heap → List Ans → Option COut) : Nat → List V → Heap → List Ans → Option COut
  | 0, _, _, _ => none
  | n + 1, t, h, ans => match body t h ans with
    | none => none
    | some r => match r.e with
      | .normal => match iter body n r.t r.h r.ans with
        | none => none
        | some q => some { q with cons := r.cons ++ q.cons }
      | _ => some r
def litOf (t : List V) : Operand → Option Bool
  | .tmp s => match t[s]? with
    | some (.lit b) => some b
    | _ => none
  | _ => none
def recB (h : Heap) (rnd : Option Nat) : Bool := match rnd with
  | none => true
  | some b => match h[b]? with
    | some (some (.rcd _)) => true
    | _ => false
def evCode (c : Cfg) (cf : CF) (lim : Nat) (rnd : Option Nat) (fi : Nat) : Code → Nat → List V → Heap → List Ans → Option COut
  | .skip, _, t, h, ans => some ⟨.normal, t, h, ans, []⟩
  | .label _, _, t, h, ans => some ⟨.normal, t, h, ans, []⟩
  | .exit id, _, t, h, ans => some ⟨.exit id, t, h, ans, []⟩
  | .ret, _, t, h, ans => some ⟨.ret, t, h, ans, []⟩
  | .region _ ops draws, _, t, h, ans => match (match draws with
      | true => evDrawn c cf lim ops t h ans
      | false => evOps c cf lim ops ops.toList t h ans) with
    | some r => some ⟨.normal, r.t, r.h, r.ans, r.cons⟩
    | none => none
  | .seq x y, k, t, h, ans => match evCode c cf lim rnd fi x k t h ans with
    | none => none
    | some r => match r.e with
      | .normal => match evCode c cf lim rnd fi y (k + (rangesIn x).length) r.t r.h r.ans with
        | none => none
        | some q => some { q with cons := r.cons ++ q.cons }
      | _ => some r
  | .cond x y z, k, t, h, ans => match litOf t x with
    | some true => evCode c cf lim rnd fi y k t h ans
    | some false => evCode c cf lim rnd fi z (k + (rangesIn y).length) t h ans
    | none => match opnd c t x with
    | some (.raw (.bool b)) => match askB b ans with
      | some (q, ans', cons) => match (match q with
          | true => evCode c cf lim rnd fi y k t h ans'
          | false => evCode c cf lim rnd fi z (k + (rangesIn y).length) t h ans') with
        | none => none
        | some r => some { r with cons := cons ++ r.cons }
      | none => none
    | _ => none
  | .block id x, k, t, h, ans => match evCode c cf lim rnd fi x k t h ans with
    | none => none
    | some r => some { r with e := match r.e with
        | .exit i => if i = id then .normal else .exit i
        | e => e }
  | .scope x, k, t, h, ans => evCode c cf lim rnd fi x k t h ans
  | .loop x, k, t, h, ans => match ans with
    | .loop e t' h' :: ans' => if h.length ≤ h'.length then some ⟨e, t', h', ans', [Runs c lim h.length rnd (.loop x) t h e t' h']⟩ else none
    | ans => iter (evCode c cf lim rnd fi x k) 100000 t h ans
  | .rangeFunc g ps x y, k, t, h, ans => match opnd c t g with
    | some (.fn (.func f) first cap) => if c.fns f && recB h rnd && t.all (·.slotOk h.length) then
        match cf.call f (first ++ [.yld h.length] ++ cap) (h ++ [some (.rcd ⟨t, fi, k, .ready⟩)]) lim ans with
        | some r => match r.h[h.length]? with
          | some (some (.rcd q)) => match q.st with
            | .ready => some ⟨.normal, t, r.h.set h.length none, r.ans, r.cons⟩
            | .done e => some ⟨e, t, r.h.set h.length none, r.ans, r.cons⟩
            | .busy => none
          | _ => none
        | none => none
      else none
    | _ => none
  | _, _, _, _, _ => none
def resultsV (c : Cfg) (t : List V) (h : Heap) : List ResultVar → Option (List V)
  | [] => some []
  | .tmp s :: l => match opnd c t (.tmp s), resultsV c t h l with
    | some v, some vs => some (v :: vs)
    | _, _ => none
  | .cell s T :: l => match opnd c t (.tmp s) with
    | some (.ptr b off) => match loadV c h T b off, resultsV c t h l with
      | some v, some vs => some (v :: vs)
      | _, _ => none
    | _ => none
def oneOf : List V → V
  | [v] => v
  | l => mkTup l
def evYld (c : Cfg) (cf : CF) (b : Nat) (args : List V) (h : Heap) (lim : Nat) (ans : List Ans) : Option Out :=
  match h[b]? with
  | some (some (.rcd r)) => match r.st with
    | .ready => if lim ≤ b ∧ args.length = (rangeAt c.P r.f r.i).1.size ∧ (rangesIn (rangeAt c.P r.f r.i).2.1).isEmpty = true then
        match evCode c cf lim (some b) r.f (rangeAt c.P r.f r.i).2.1 0 (((rangeAt c.P r.f r.i).1.toList.zip args).foldl (fun t p => t.set p.1 p.2) r.t) h ans with
        | some o1 => match o1.e, o1.h[b]? with
          | .normal, some (some (.rcd r1)) => match r1.st with
            | .ready => match evCode c cf lim (some b) r.f (rangeAt c.P r.f r.i).2.2 (r.i + 1) o1.t (o1.h.set b (some (.rcd { r1 with st := .busy }))) o1.ans with
              | some o2 => match o2.h[b]? with
                | some (some (.rcd r2)) => match o2.e with
                  | .normal => some ⟨.raw (.bool true), o2.h.set b (some (.rcd { r2 with st := .ready })), o2.ans, o1.cons ++ o2.cons⟩
                  | e => some ⟨.raw (.bool false), o2.h.set b (some (.rcd { r2 with st := .done e })), o2.ans, o1.cons ++ o2.cons⟩
                | _ => none
              | none => none
            | _ => none
          | _, _ => none
        | none => none
      else none
    | _ => none
  | _ => none
structure Dfr where
  f : FuncId
  xs : List V
  cap : List V
structure TOut where
  o : COut
  ds : List Dfr
def isDfr (o : Oper) : Bool := match o.op with
  | .defer _ => true
  | _ => false
def dfrV (c : Cfg) (t : List V) (o : Oper) : Option Dfr := match o.op with
  | .defer ⟨.value g, args, _⟩ => match opnd c t g, opnds c t args.toList with
    | some (.fn (.func f) first cap), some xs => if c.fns f then some ⟨f, first ++ xs, cap⟩ else none
    | _, _ => none
  | _ => none
def evOpsT (c : Cfg) (cf : CF) (lim : Nat) (ops : Array Oper) : List Oper → List V → Heap → List Ans → Option (ROut × List Dfr)
  | [], t, h, ans => some (⟨t, h, ans, []⟩, [])
  | o :: rest, t, h, ans => match isDfr o with
    | true => match dfrV c t o, o.guard with
      | some d, none => match evOpsT c cf lim ops rest (putT t o.dst (.raw undef)) h ans with
        | none => none
        | some q => some (q.1, q.2 ++ [d])
      | _, _ => none
    | false => match evGuard ops t ans o with
      | none => none
      | some g => match g.want with
        | true => match evOp c cf lim g.t h g.ans o with
          | none => none
          | some r => match evOpsT c cf lim ops rest (putT g.t o.dst r.v) r.h r.ans with
            | none => none
            | some q => some ({ q.1 with cons := g.cons ++ (r.cons ++ q.1.cons) }, q.2)
        | false => match evOpsT c cf lim ops rest (putT g.t o.dst (.raw undef)) h g.ans with
          | none => none
          | some q => some ({ q.1 with cons := g.cons ++ q.1.cons }, q.2)
def evTop (c : Cfg) (cf : CF) (lim fi : Nat) : Code → Nat → List V → Heap → List Ans → Option TOut
  | .seq x y, k, t, h, ans => match evTop c cf lim fi x k t h ans with
    | none => none
    | some r => match r.o.e with
      | .normal => match evTop c cf lim fi y (k + (rangesIn x).length) r.o.t r.o.h r.o.ans with
        | none => none
        | some q => some ⟨{ q.o with cons := r.o.cons ++ q.o.cons }, q.ds ++ r.ds⟩
      | _ => some r
  | .scope x, k, t, h, ans => evTop c cf lim fi x k t h ans
  | .region id ops draws, k, t, h, ans => match evCode c cf lim none fi (.region id ops draws) k t h ans with
    | some r => some ⟨r, []⟩
    | none => match draws with
      | true => none
      | false => match evOpsT c cf lim ops ops.toList t h ans with
        | none => none
        | some q => some ⟨⟨.normal, q.1.t, q.1.h, q.1.ans, q.1.cons⟩, q.2⟩
  | code, k, t, h, ans => match evCode c cf lim none fi code k t h ans with
    | some r => some ⟨r, []⟩
    | none => none
inductive Md where
  | ret
  | pan (v : V) (r : Bool)
structure RC where
  e : Ex
  t : List V
  h : Heap
  m : Md
  ans : List Ans
  cons : List Prop
def isRec (o : Oper) : Bool := match o.op with
  | .call ⟨.builtin .recover, _, _⟩ => true
  | _ => false
def recV : Md → V × Md
  | .ret => (.raw .nilIface, .ret)
  | .pan v false => (v, .pan v true)
  | .pan v true => (.raw .nilIface, .pan v true)
def plainV (c : Cfg) (t : List V) (o : Oper) : Option V := match o.op with
  | .move x => opnd c t x
  | .assign x => opnd c t x
  | _ => match plainOpnds o.op with
  | some l => if l.all (isRaw c t) then
      match pureRun c.P (execOp (rawOf c t) o) with
      | some (.value v) => some (.raw v)
      | _ => none
    else none
  | none => none
def evOpsR (c : Cfg) (ops : Array Oper) : List Oper → List V → Md → List Ans → Option (List V × Md × List Ans × List Prop)
  | [], t, m, ans => some (t, m, ans, [])
  | o :: rest, t, m, ans => match evGuard ops t ans o with
    | none => none
    | some g => match g.want with
      | true => match isRec o with
        | true => match evOpsR c ops rest (putT g.t o.dst (recV m).1) (recV m).2 g.ans with
          | none => none
          | some q => some (q.1, q.2.1, q.2.2.1, g.cons ++ q.2.2.2)
        | false => match plainV c g.t o with
          | none => none
          | some v => match evOpsR c ops rest (putT g.t o.dst v) m g.ans with
            | none => none
            | some q => some (q.1, q.2.1, q.2.2.1, g.cons ++ q.2.2.2)
      | false => match evOpsR c ops rest (putT g.t o.dst (.raw undef)) m g.ans with
        | none => none
        | some q => some (q.1, q.2.1, q.2.2.1, g.cons ++ q.2.2.2)
def evCodeR (c : Cfg) (cf : CF) (lim : Nat) : Code → List V → Heap → Md → List Ans → Option RC
  | .skip, t, h, m, ans => some ⟨.normal, t, h, m, ans, []⟩
  | .exit id, t, h, m, ans => some ⟨.exit id, t, h, m, ans, []⟩
  | .ret, t, h, m, ans => some ⟨.ret, t, h, m, ans, []⟩
  | .seq x y, t, h, m, ans => match evCodeR c cf lim x t h m ans with
    | none => none
    | some r => match r.e with
      | .normal => match evCodeR c cf lim y r.t r.h r.m r.ans with
        | none => none
        | some q => some { q with cons := r.cons ++ q.cons }
      | _ => some r
  | .scope x, t, h, m, ans => evCodeR c cf lim x t h m ans
  | .block id x, t, h, m, ans => match evCodeR c cf lim x t h m ans with
    | none => none
    | some r => some { r with e := match r.e with
        | .exit i => if i = id then .normal else .exit i
        | e => e }
  | .cond x y z, t, h, m, ans => match litOf t x with
    | some true => evCodeR c cf lim y t h m ans
    | some false => evCodeR c cf lim z t h m ans
    | none => match opnd c t x with
    | some (.raw (.bool b)) => match askB b ans with
      | some (true, ans', cons) => match evCodeR c cf lim y t h m ans' with
        | none => none
        | some r => some { r with cons := cons ++ r.cons }
      | some (false, ans', cons) => match evCodeR c cf lim z t h m ans' with
        | none => none
        | some r => some { r with cons := cons ++ r.cons }
      | none => none
    | _ => none
  | .region _ ops draws, t, h, m, ans => match draws with
    | true => match evDrawn c cf lim ops t h ans with
      | some r => some ⟨.normal, r.t, r.h, m, r.ans, r.cons⟩
      | none => none
    | false => match ops.toList.any isRec with
      | true => match evOpsR c ops ops.toList t m ans with
        | some q => some ⟨.normal, q.1, h, q.2.1, q.2.2.1, q.2.2.2⟩
        | none => none
      | false => match evOps c cf lim ops ops.toList t h ans with
        | some r => some ⟨.normal, r.t, r.h, m, r.ans, r.cons⟩
        | none => none
  | _, _, _, _, _ => none
def evDfr (c : Cfg) (cf : CF) (lim : Nat) (d : Dfr) (h : Heap) (m : Md) (ans : List Ans) : Option (Heap × Md × List Ans × List Prop) := match c.P.funcs[d.f]? with
  | none => none
  | some fn => match fn.body with
    | none => none
    | some code => match evCodeR c cf lim code ((d.xs ++ d.cap) ++ List.replicate (fn.ntmps - (d.xs ++ d.cap).length) (.raw undef)) h m ans with
      | none => none
      | some r => match r.e with
        | .exit _ => none
        | _ => match resultsV c r.t r.h fn.results.toList with
          | none => none
          | some _ => some (r.h, r.m, r.ans, r.cons)
def settleM : Md → Md
  | .pan _ true => .ret
  | m => m
def evDfrs (c : Cfg) (cf : CF) (lim : Nat) : List Dfr → Heap → Md → List Ans → Option (Heap × Md × List Ans × List Prop)
  | [], h, m, ans => some (h, m, ans, [])
  | d :: ds, h, m, ans => match evDfr c cf lim d h m ans with
    | none => none
    | some r => match evDfrs c cf lim ds r.1 (settleM r.2.1) r.2.2.1 with
      | none => none
      | some q => some (q.1, q.2.1, q.2.2.1, r.2.2.2 ++ q.2.2.2)
def hasDfr : Code → Bool
  | .seq x y => hasDfr x || hasDfr y
  | .scope x => hasDfr x
  | .region _ ops _ => ops.toList.any isDfr
  | _ => false
def evDeferring (c : Cfg) (cf : CF) (lim : Nat) (f : FuncId) (fn : Func) (code : Code) (args : List V) (h : Heap) (ans : List Ans) : Option Out :=
  match evTop c cf lim f code 0 (args ++ List.replicate (fn.ntmps - args.length) (.raw undef)) h ans with
  | none => none
  | some r => match r.o.e with
    | .exit _ => none
    | _ => match evDfrs c cf lim r.ds r.o.h .ret r.o.ans with
      | none => none
      | some q => match q.2.1 with
        | .pan _ _ => none
        | .ret => match resultsV c r.o.t q.1 fn.results.toList with
          | none => none
          | some vs => some ⟨oneOf vs, q.1, q.2.2.1, r.o.cons ++ q.2.2.2⟩
def evYlds (c : Cfg) (call : FuncId → List V → Heap → Nat → List Ans → Option Out) : Nat → Nat → List V → Heap → Nat → List Ans → Option Out
  | 0, _, _, _, _, _ => none
  | m + 1, b, args, h, lim, ans => evYld c ⟨call, evYlds c call m⟩ b args h lim ans
def cleanH (n : Nat) : Nat → Heap → Bool
  | 0, _ => true
  | k + 1, h => match h with
    | [] => true
    | X :: l => match X with
      | none => cleanH n k l
      | some B => match B.under n with
        | true => cleanH n k l
        | false => false
def gcH (c : Cfg) (n : Nat) (v : V) (h : Heap) : Heap := match c.conc with
  | false => h
  | true => match v.under n with
    | false => h
    | true => match cleanH n n h with
      | true => h.take n
      | false => h
def gcO (c : Cfg) (n : Nat) : Option Out → Option Out
  | none => none
  | some r => some { r with h := gcH c n r.v r.h }
def RetRow (c : Cfg) (f : FuncId) (A : List V) (T : TypeId) (k : Nat) (N : List V) (U : TypeId) (sz n : Nat) : Prop :=
  ∀ h lim b o, c.L ≤ lim → lim ≤ h.length → h[b]? = some (some (.cells A T o)) → Meets c lim f [.slo b k] h (.slo h.length n) (h ++ [some (.cells N U (.row sz))])
def toldRow : V → Option (TypeId × List V × Nat × Nat)
  | .fn (.func U) N l => match l with
    | [.slo sz n] => some (U, N, sz, n)
    | _ => none
  | _ => none
def RetNew (c : Cfg) (f : FuncId) (args : List V) (N : List V) (U : TypeId) (sz n : Nat) : Prop :=
  ∀ (h : Heap) (lim : Nat), c.L ≤ lim → lim ≤ h.length → Meets c lim f args h (.slo h.length n) (h ++ [some (.cells N U (.row sz))])
def RetDel (c : Cfg) (f : FuncId) (rest : List V) (A : List V) (T : TypeId) (s0 k : Nat) (N : List V) (U : TypeId) (sz n : Nat) : Prop :=
  ∀ (h : Heap) (lim b : Nat), c.L ≤ lim → lim ≤ h.length → lim ≤ b → h[b]? = some (some (.cells A T (.row s0))) → Meets c lim f (.slo b k :: rest) h (.slo h.length n) (h.set b none ++ [some (.cells N U (.row sz))])
def toldDel : V → Option (TypeId × List V × Nat × Nat)
  | .fn (.func U) N l => match l with
    | [.ptr sz n] => some (U, N, sz, n)
    | _ => none
  | _ => none
def evFunc (c : Cfg) : Nat → FuncId → List V → Heap → Nat → List Ans → Option Out
  | 0, _, _, _, _, _ => none
  | n + 1, f, args, h, lim, ans => match told f ans, ans with
    | some (v, ans'), _ => match toldRow v with
      | none => match toldDel v with
        | none => some ⟨v, h, ans', [Ret c f args v]⟩
        | some (U, N, sz, n') => match args with
          | .slo b k :: rest => match h[b]? with
            | some (some (.cells A T (.row s0))) => if lim ≤ b then some ⟨.slo h.length n', h.set b none ++ [some (.cells N U (.row sz))], ans', [RetDel c f rest A T s0 k N U sz n']⟩ else none
            | _ => none
          | _ => none
      | some (U, N, sz, n') => match args with
        | [.slo b k] => match h[b]? with
          | some (some (.cells A T _)) => some ⟨.slo h.length n', h ++ [some (.cells N U (.row sz))], ans', [RetRow c f A T k N U sz n']⟩
          | _ => none
        | _ => some ⟨.slo h.length n', h ++ [some (.cells N U (.row sz))], ans', [RetNew c f args N U sz n']⟩
    | none, .reth v h' :: ans' => some ⟨v, h', ans', [Meets c lim f args h v h']⟩
    | none, _ => match (match ans with
        | .go :: a => some a
        | .auto q cs :: a => some (.auto q cs :: a)
        | _ => none) with
      | none => none
      | some ans' => match c.P.funcs[f]? with
        | none => none
        | some fn => match fn.body with
          | none => none
          | some code => match evCode c ⟨evFunc c n, evYlds c (evFunc c n) 3⟩ lim none f code 0 (args ++ List.replicate (fn.ntmps - args.length) (.raw undef)) h ans' with
            | none => match hasDfr code with
              | true => gcO c h.length (evDeferring c ⟨evFunc c n, evYlds c (evFunc c n) 3⟩ lim f fn code args h ans')
              | false => none
            | some r => match r.e with
              | .exit _ => none
              | _ => match resultsV c r.t r.h fn.results.toList with
                | none => none
                | some vs => some ⟨oneOf vs, gcH c h.length (oneOf vs) r.h, r.ans, r.cons⟩
end
end Go.Proofs.Ytcibaankajfhlaa.E2
end
section
namespace Go.Proofs.Ytcibaankajfhlaa.E2
open Go Go.RowKit
section
variable {c : Cfg} {lim : Nat}
theorem BlkOk.notDfr {P : Program} {ρ : Ren} {l : Loc} {w : World} {B : Blk} (h : BlkOk P ρ l w B) (hn : l.nil = false) {x : Option (List Deferred)} : w.heap[l.n]? ≠ some (.deferred x) := by
  cases B with
  | cells cs ty own => obtain ⟨fr, h1, _⟩ := h.row hn; rw [h1]; simp
  | rcd r => obtain ⟨_, fn, u, D, h1⟩ := h; rw [h1]; simp
  | mp ks vs bs k => rw [h.2]; simp
theorem Fr.keep {n : Nat} {ρ ρ' : Ren} {h h' : Heap} {w w' : World} (RH : RelH c ρ h w) (F : Fr lim n ρ h w ρ' h' w') {D : Nat} {x : Option (List Deferred)} (hD : w.heap[D]? = some (.deferred x)) : w'.heap[D]? = some (.deferred x) := by
  rw [F.blk D (Array.getElem?_eq_some_iff.1 hD).1 fun i _ hi e => ?_, hD]
  obtain ⟨B, h1, _, h3⟩ := hi
  exact (RH.cell i B h1).notDfr h3 (by rw [e]; exact hD)
theorem Marks.nil {w0 w : World} : Marks w0 w [] := ⟨[], rfl, List.nodup_nil, fun D hD => by cases hD⟩
theorem Marks.keep {w0 w w' : World} {ms : List Deferred} (h : Marks w0 w ms) (hk : ∀ D : Nat, w.heap[D]? = some (.deferred (some [])) → w'.heap[D]? = some (.deferred (some []))) : Marks w0 w' ms := by
  obtain ⟨Ds, h1, h2, h3⟩ := h
  exact ⟨Ds, h1, h2, fun D hD => ⟨(h3 D hD).1, hk D (h3 D hD).2⟩⟩
theorem Marks.trans {w0 w1 w2 : World} {ms ms' : List Deferred} (h : Marks w0 w1 ms) (h' : Marks w1 w2 ms') (hs : w0.heap.size ≤ w1.heap.size) (hk : ∀ D : Nat, w1.heap[D]? = some (.deferred (some [])) → w2.heap[D]? = some (.deferred (some []))) : Marks w0 w2 (ms' ++ ms) := by
  obtain ⟨Ds, rfl, h2, h3⟩ := h
  obtain ⟨Es, rfl, k2, k3⟩ := h'
  refine ⟨Es ++ Ds, by simp, ?_, fun D hD => ?_⟩
  · rw [List.nodup_append]
    refine ⟨k2, h2, fun x hx y hy e => ?_⟩
    subst e
    have h4 := (k3 x hx).1
    have h5 := (Array.getElem?_eq_some_iff.1 (h3 x hy).2).1
    omega
  · rcases List.mem_append.1 hD with h4 | h4
    · exact ⟨Nat.le_trans hs (k3 D h4).1, (k3 D h4).2⟩
    · exact ⟨(h3 D h4).1, hk D (h3 D h4).2⟩
theorem Runs.go {n : Nat} {rnd : Option Nat} {code : Code} {t t' : List V} {h h' : Heap} {e : Ex} (hr : Runs c lim n rnd code t h e t' h') {ρ : Ren} {a : Act} {w : World} (RT : RelT ρ h.length t a) (RH : RelH c ρ h w) {Q : Exit → Act → World → Prop}
    (hQ : ∀ ρ' a' w' ms, a'.defers = ms ++ a.defers → Marks w w' ms → RelT ρ' h'.length t' a' → RelH c ρ' h' w' → Fr lim n ρ h w ρ' h' w' → Q e.to a' w') : code.wpIn (FW (rndOf ρ rnd)) 0 c.P Q a w :=
  wpIn_mono (hr ρ a w RT RH) fun x a' w' ⟨hx, ρ', ms, h1, h2, h3, h4, h5⟩ => by subst hx; exact hQ ρ' a' w' ms h1 h2 h3 h4 h5
theorem Runs.fewer {n m : Nat} {rnd : Option Nat} {code : Code} {t t' : List V} {h h' : Heap} {e : Ex} (hr : Runs c lim n rnd code t h e t' h') (hm : m ≤ n) (hl : lim ≤ m) : Runs c lim m rnd code t h e t' h' :=
  fun ρ a w RT RH => hr.go RT RH fun ρ' a' w' ms h1 h2 h3 h4 h5 => ⟨rfl, ρ', ms, h1, h2, h3, h4, h5.fewer hm hl⟩
theorem rndOf_ren {ρ ρ' : Ren} {rnd : Option Nat} {n : Nat} (hb : ∀ b, rnd = some b → b < n) (h : ∀ i, i < n → ρ'.blk i = ρ.blk i) : rndOf ρ' rnd = rndOf ρ rnd := by
  cases rnd with
  | none => rfl
  | some b => simp only [rndOf, Option.map_some]; rw [h b (hb b rfl)]
theorem Runs.seq {n : Nat} {rnd : Option Nat} {x y : Code} {t t1 t' : List V} {h h1 h' : Heap} {e : Ex} (hb : ∀ b, rnd = some b → b < n) (hr : Runs c lim n rnd x t h .normal t1 h1) (hs : Runs c lim n rnd y t1 h1 e t' h') : Runs c lim n rnd (.seq x y) t h e t' h' := by
  intro ρ a w RT RH
  refine wpIn_seq (hr.go RT RH fun ρ1 a1 w1 ms1 d1 M1 RT1 RH1 F1 => ?_)
  have := hs ρ1 a1 w1 RT1 RH1
  rw [rndOf_ren hb F1.ren] at this
  refine wpIn_mono this fun z a2 w2 ⟨hz, ρ2, ms2, d2, M2, RT2, RH2, F2⟩ => ⟨hz, ρ2, ms2 ++ ms1, by rw [d2, d1, List.append_assoc], Marks.trans M1 M2 F1.size (fun D hD => F2.keep RH1 hD), RT2, RH2, F1.trans F2⟩
def Rounds (c : Cfg) (lim n : Nat) (rnd : Option Nat) (x : Code) (m : Nat) (t : List V) (h : Heap) (e : Ex) (t' : List V) (h' : Heap) : Prop :=
  ∀ ρ a w, RelT ρ h.length t a → RelH c ρ h w → ∀ Q : Exit → Act → World → Prop,
    (∀ ρ' a' w' ms, a'.defers = ms ++ a.defers → Marks w w' ms → RelT ρ' h'.length t' a' → RelH c ρ' h' w' → Fr lim n ρ h w ρ' h' w' → Q e.to a' w') → Code.roundsIn (FW (rndOf ρ rnd)) 0 c.P x Q m a w
theorem rounds_done {n : Nat} {rnd : Option Nat} {x : Code} {t t' : List V} {h h' : Heap} {e : Ex} (hr : Runs c lim n rnd x t h e t' h') (he : e ≠ .normal) : Rounds c lim n rnd x 1 t h e t' h' := by
  intro ρ a w RT RH Q hQ
  rw [roundsIn_succ]
  refine hr.go RT RH fun ρ' a' w' ms d M RT' RH' F => ?_
  have := hQ ρ' a' w' ms d M RT' RH' F
  cases e with
  | normal => exact absurd rfl he
  | exit i => exact this
  | ret => exact this
theorem rounds_more {n : Nat} {rnd : Option Nat} {x : Code} {t t1 t' : List V} {h h1 h' : Heap} {e : Ex} {m : Nat} (hb : ∀ b, rnd = some b → b < n) (hr : Runs c lim n rnd x t h .normal t1 h1) (hs : Rounds c lim n rnd x m t1 h1 e t' h') : Rounds c lim n rnd x (m + 1) t h e t' h' := by
  intro ρ a w RT RH Q hQ
  rw [roundsIn_succ]
  refine hr.go RT RH fun ρ1 a1 w1 ms1 d1 M1 RT1 RH1 F1 => ?_
  have := hs ρ1 a1 w1 RT1 RH1 Q fun ρ' a' w' ms d M RT' RH' F => hQ ρ' a' w' (ms ++ ms1) (by rw [d, d1, List.append_assoc]) (Marks.trans M1 M F1.size (fun D hD => F.keep RH1 hD)) RT' RH' (F1.trans F)
  rw [rndOf_ren hb F1.ren] at this
  exact this
theorem runs_loop {n : Nat} {rnd : Option Nat} {x : Code} {t t' : List V} {h h' : Heap} {e : Ex} {m : Nat} (hr : Rounds c lim n rnd x m t h e t' h') : Runs c lim n rnd (.loop x) t h e t' h' := by
  intro ρ a w RT RH
  exact wpIn_loop_rounds m (hr ρ a w RT RH _ fun ρ' a' w' ms d M RT' RH' F => ⟨rfl, ρ', ms, d, M, RT', RH', F⟩)
theorem iter_sound {rnd : Option Nat} {n : Nat} {x : Code} (hln : lim ≤ n) (hb : ∀ b, rnd = some b → b < n) {body : List V → Heap → List Ans → Option COut} (hbody : ∀ t h ans r, n ≤ h.length → body t h ans = some r → (∀ p ∈ r.cons, p) → Runs c lim n rnd x t h r.e r.t r.h) :
    ∀ (m : Nat) (t : List V) (h : Heap) (ans : List Ans) (r : COut), iter body m t h ans = some r → (∀ p ∈ r.cons, p) → n ≤ h.length → Rounds c lim n rnd x m t h r.e r.t r.h := by
  intro m
  induction m with
  | zero => intro t h ans r he; simp [iter] at he
  | succ m ih =>
    intro t h ans r he hc hnl
    simp only [iter] at he
    split at he
    · cases he
    · rename_i r1 hr1
      split at he
      · rename_i hn
        split at he
        · cases he
        · rename_i q hq
          simp only [Option.some.injEq] at he
          subst he
          have h1 := hbody _ _ _ _ hnl hr1 (fun p hp => hc p (List.mem_append_left _ hp))
          rw [hn] at h1
          intro ρ a w RT RH Q hQ
          rw [roundsIn_succ]
          refine h1.go RT RH fun ρ1 a1 w1 ms1 d1 M1 RT1 RH1 F1 => ?_
          have := ih _ _ _ q hq (fun p hp => hc p (List.mem_append_right _ hp)) F1.len ρ1 a1 w1 RT1 RH1 Q fun ρ' a' w' ms d M RT' RH' F => hQ ρ' a' w' (ms ++ ms1) (by rw [d, d1, List.append_assoc]) (Marks.trans M1 M F1.size (fun D hD => F.keep RH1 hD)) RT' RH' (F1.trans F)
          rw [rndOf_ren hb F1.ren] at this
          exact this
      · rename_i hne
        simp only [Option.some.injEq] at he
        subst he
        have h1 := hbody _ _ _ _ hnl hr1 hc
        intro ρ a w RT RH Q hQ
        rw [roundsIn_succ]
        refine h1.go RT RH fun ρ' a' w' ms d M RT' RH' F => ?_
        have := hQ ρ' a' w' ms d M RT' RH' F
        cases he : r1.e with
        | normal => exact absurd he hne
        | exit i => rw [he] at this; exact this
        | ret => rw [he] at this; exact this
end
theorem litOf_eval {c : Cfg} {ρ : Ren} {h : Heap} {w : World} {t : List V} {a : Act} (RH : RelH c ρ h w) (RT : RelT ρ h.length t a) {x : Operand} {b : Bool} (hx : litOf t x = some b) : a.eval x = .bool b := by
  unfold litOf at hx
  split at hx
  · rename_i s
    split at hx
    · rename_i b' hb
      simp only [Option.some.injEq] at hx
      subst hx
      have := opnd_eval (c := c) (x := .tmp s) (v := .raw (.bool b')) RH RT (by simp [opnd, getR_eq, hb])
      exact this
    · cases hx
  · cases hx
theorem results_list {c : Cfg} {ρ : Ren} {h : Heap} {w : World} {t : List V} {a : Act} (RH : RelH c ρ h w) (RT : RelT ρ h.length t a) (F : ResultVar → Sem Value)
    (hF1 : ∀ s, F (.tmp s) = pure (a.tmps.getD s undef)) (hF2 : ∀ s T, F (.cell s T) = (asAddr (a.tmps.getD s undef) >>= fun q => loadVar T q)) : ∀ (l : List ResultVar) (vs : List V), resultsV c t h l = some vs →
    (l.mapM F).run c.P w = .ok (concs ρ vs) w ∧ unders h.length vs = true
  | [], vs, he => by
    simp only [resultsV, Option.some.injEq] at he
    subst he
    exact ⟨rfl, rfl⟩
  | .tmp s :: l, vs, he => by
    simp only [resultsV] at he
    split at he
    · rename_i v us hv hus
      simp only [Option.some.injEq] at he
      subst he
      obtain ⟨h1, h2⟩ := results_list RH RT F hF1 hF2 l us hus
      have e1 := opnd_eval RH RT hv
      simp only [Act.eval] at e1
      refine ⟨?_, by simp [unders, h2, opnd_under RH RT hv]⟩
      simp only [List.mapM_cons, concs, hF1, e1]
      simp [go_sem, h1]
    · cases he
  | .cell s T :: l, vs, he => by
    simp only [resultsV] at he
    split at he
    · rename_i b off hv
      split at he
      · rename_i v us hl hus
        simp only [Option.some.injEq] at he
        subst he
        obtain ⟨h1, h2⟩ := results_list RH RT F hF1 hF2 l us hus
        obtain ⟨h3, h4⟩ := load_conc RH hl
        have e1 := opnd_eval RH RT hv
        simp only [Act.eval, V.conc] at e1
        refine ⟨?_, by simp [unders, h2, h4]⟩
        have e2 : F (.cell s T) = loadVar T ⟨(ρ.blk b).n, (ρ.blk b).pre.length + off, none⟩ := by rw [hF2, e1]; rfl
        simp only [List.mapM_cons, concs, e2]
        generalize loadVar T ⟨(ρ.blk b).n, (ρ.blk b).pre.length + off, none⟩ = q at h3 ⊢
        simp [go_sem, h1, h3]
      · cases he
    · cases he
theorem oneOf_ok {ρ : Ren} {n : Nat} {vs : List V} (hu : unders n vs = true) : (oneOf vs).conc ρ = (if h : (concs ρ vs).toArray.size = 1 then (concs ρ vs).toArray[0] else Value.tuple (concs ρ vs).toArray) ∧ (oneOf vs).under n = true := by
  match vs, hu with
  | [], _ => exact ⟨by simp [oneOf, mkTup_conc, concs], rfl⟩
  | [v], hu =>
    refine ⟨by simp [oneOf, concs], ?_⟩
    simp only [unders, Bool.and_true] at hu
    exact hu
  | v :: u :: l, hu => exact ⟨by simp [oneOf, mkTup_conc, concs], mkTup_under hu⟩
theorem results_ok {c : Cfg} {ρ : Ren} {h : Heap} {w : World} {t : List V} {a : Act} (RH : RelH c ρ h w) (RT : RelT ρ h.length t a) {fn : Func} {vs : List V} (hv : resultsV c t h fn.results.toList = some vs) :
    (results fn a.tmps).run c.P w = .ok ((oneOf vs).conc ρ) w ∧ (oneOf vs).under h.length = true := by
  unfold results
  obtain ⟨h1, h2⟩ := results_list RH RT (fun x => match x with
    | ResultVar.tmp t => pure (a.tmps.getD t undef)
    | ResultVar.cell s T => do
      let q ← asAddr (a.tmps.getD s undef)
      loadVar T q) (fun _ => rfl) (fun _ _ => rfl) _ _ hv
  obtain ⟨h3, h4⟩ := oneOf_ok (ρ := ρ) h2
  refine ⟨?_, h4⟩
  rw [h3]
  simp only [Array.mapM_eq_mapM_toList]
  generalize hq : List.mapM (m := Sem) _ fn.results.toList = q at h1
  clear hq
  simp [go_sem, h1]
theorem wpIn_scope_straight {F : Fence} {n : Nat} {P : Program} {x : Code} {Q : Exit → Act → World → Prop} {a : Act} {w : World} (h : x.wpIn F n P (Exit.noGoto Q) a w) : (Code.scope x).wpIn F n P Q a w := by
  intro b k cs hro hb hr
  have s1 : step P (lone (b.atR a (.code (.scope x) :: k)) cs w) = .next (lone (b.atR a (.code x :: .inScope x :: k)) cs w) := step_lone_go (by simp [stepG, stepG.exec, Frame.atR])
  have s2 : ∀ a w, step P (lone (b.atR a (.inScope x :: k)) cs w) = .next (lone (b.atR a k) cs w) := fun a w => step_lone_go (by simp [stepG, stepG.exec, Frame.atR])
  have t1 : StepsIn (Machine.fenced P F) P (lone (b.atR a (.code (.scope x) :: k)) cs w) (lone (b.atR a (.code x :: .inScope x :: k)) cs w) := .one (fenced_calm hb hr rfl) s1
  obtain ⟨e, a₁, w₁, hq, harr⟩ := h b (.inScope x :: k) cs hro hb hr
  cases e with
  | normal => exact ⟨.normal, a₁, w₁, hq, StepsIn.trans t1 (StepsIn.trans harr (.one (fenced_calm hb hr rfl) (s2 a₁ w₁)))⟩
  | exit id =>
    refine ⟨.exit id, a₁, w₁, hq, ?_⟩
    refine .of_steps t1 ?_
    have hx : exitTo id (.inScope x :: k) = exitTo id k := by simp [exitTo]
    exact ⟨fun k' hk => harr.1 k' (by rw [hx]; exact hk), fun hr' hk => harr.2 hr' (by rw [hx]; exact hk)⟩
  | goto l => exact hq.elim
  | ret => exact ⟨_, a₁, w₁, hq, .of_steps t1 harr⟩
  | panic ch => exact ⟨_, a₁, w₁, hq, .of_steps t1 harr⟩
  | outgrown => exact ⟨_, a₁, w₁, hq, .of_steps t1 harr⟩
end Go.Proofs.Ytcibaankajfhlaa.E2
end
section
namespace Go.Proofs.Ytcibaankajfhlaa.E2
open Go Go.RowKit
section
variable {c : Cfg} {lim : Nat}
theorem enter_ok {P : Program} {ρ : Ren} {h : Heap} {w : World} (RH : RelH c ρ h w) {rnd : Option Nat} (hr : recB h rnd = true) (fn : FuncId) (tmps : Array Value) (ps : Array Tmp) (x y : Code) :
    ∃ (l : Nat) (mark : List Deferred) (w1 : World) (D : Nat), (Instr.enterLoop fn tmps ps x y (rndOf ρ rnd)).run P w = .ok (l, mark) w1 ∧ w1.heap[l]? = some (.loop { state := .ready, pending := none, fn, tmps, params := ps, assign := x, body := y, defers := D }) ∧ w.heap.size ≤ l ∧
      (∀ k : Nat, k < w.heap.size → w1.heap[k]? = w.heap[k]?) ∧ w1.os = w.os ∧ w1.tape = w.tape ∧ w1.output = w.output ∧ w.heap.size ≤ w1.heap.size ∧ Marks w w1 mark := by
  cases rnd with
  | none =>
    refine ⟨w.heap.size + 1, [markOf w.heap.size], (w.alloc (.deferred (some []))).alloc (.loop { state := .ready, pending := none, fn, tmps, params := ps, assign := x, body := y, defers := w.heap.size }), w.heap.size, run_enterLoop_outer (w := w) fn tmps ps x y, ?_, by omega, fun k hk => ?_, rfl, rfl, rfl, by simp; omega, [w.heap.size], rfl, by simp, fun D hD => ?_⟩
    · have := alloc_this (w.alloc (.deferred (some []))) (.loop { state := .ready, pending := none, fn, tmps, params := ps, assign := x, body := y, defers := w.heap.size })
      rwa [World.size_alloc] at this
    · rw [Below.heap_alloc _ _ _ (by simp; omega), Below.heap_alloc _ _ _ hk]
    · rw [List.mem_singleton] at hD
      subst hD
      exact ⟨Nat.le_refl _, by rw [Below.heap_alloc _ _ _ (by simp), alloc_this]⟩
  | some b =>
    simp only [recB] at hr
    split at hr
    · rename_i q hb
      obtain ⟨_, fn', u, D, h1⟩ := RH.cell b _ hb
      refine ⟨w.heap.size, [], w.alloc (.loop { state := .ready, pending := none, fn, tmps, params := ps, assign := x, body := y, defers := D }), D, ?_, alloc_this _ _, Nat.le_refl _, fun k hk => Below.heap_alloc _ _ _ hk, rfl, rfl, rfl, by simp, Marks.nil⟩
      simp only [rndOf, Option.map_some]
      unfold Instr.enterLoop
      simp only [Sem.run_bind, run_getLoop h1, Rec.loop, Result.andThen, Sem.run_pure, run_newObj_alloc]
    · cases hr
theorem putObj_rel {ρ : Ren} {h : Heap} {w : World} (RH : RelH c ρ h w) {b : Nat} {q : Rec} {X : Option Blk} {o : Obj} (hb : h[b]? = some (some (.rcd q))) (hL : c.L ≤ b) (hl : lim ≤ b) (hX : ∀ B', X = some B' → B'.under h.length = true ∧ ((w.putObj (ρ.blk b).n o).heap[(ρ.blk b).n]? = some o → BlkOk c.P ρ (ρ.blk b) (w.putObj (ρ.blk b).n o) B')) :
    RelH c ρ (h.set b X) (w.putObj (ρ.blk b).n o) ∧ Fr lim h.length ρ h w ρ (h.set b X) (w.putObj (ρ.blk b).n o) ∧ ∀ (D : Nat) (x : Option (List Deferred)), w.heap[D]? = some (.deferred x) → (w.putObj (ρ.blk b).n o).heap[D]? = some (.deferred x) := by
  obtain ⟨hn, fn, u, D, h1⟩ := RH.cell b _ hb
  have hlt : (ρ.blk b).n < w.heap.size := (Array.getElem?_eq_some_iff.1 h1).1
  refine ⟨relH_set RH hb rfl hn hL (fun B' e => ⟨(hX B' e).1, (hX B' e).2 (World.putObj_heap_same hlt)⟩) (fun k hk => World.putObj_heap_other hk), fr_set hb rfl hn hl rfl rfl rfl (by simp) (fun k _ hk => World.putObj_heap_other hk), fun E x hE => ?_⟩
  rw [World.putObj_heap_other (fun e => by subst e; rw [h1] at hE; cases hE), hE]
theorem evCode_sound (hm : c.P.follows .mixedOrders = true) {cf : CF} (hcf : CallOk c cf) (hfn : ∀ f, c.fns f = true → Callable c.P f) (hL : c.L ≤ lim) {rnd : Option Nat} {fi : Nat} :
    ∀ (code : Code) (k : Nat) (t : List V) (h : Heap) (ans : List Ans) (r : COut), evCode c cf lim rnd fi code k t h ans = some r → (∀ p ∈ r.cons, p) → lim ≤ h.length → (∀ b, rnd = some b → b < h.length) → (∀ j x, (rangesIn code)[j]? = some x → rangeAt c.P fi (k + j) = x) → Runs c lim h.length rnd code t h r.e r.t r.h := by
  intro code
  induction code with
  | skip =>
    intro k t h ans r he hc hl hb hs
    simp only [evCode, Option.some.injEq] at he
    subst he
    exact fun ρ a w RT RH => wpIn_skip ⟨rfl, ρ, [], rfl, Marks.nil, RT, RH, Fr.refl _ _ _ _ hl (Nat.le_refl _)⟩
  | label l =>
    intro k t h ans r he hc hl hb hs
    simp only [evCode, Option.some.injEq] at he
    subst he
    exact fun ρ a w RT RH => wpIn_label ⟨rfl, ρ, [], rfl, Marks.nil, RT, RH, Fr.refl _ _ _ _ hl (Nat.le_refl _)⟩
  | exit id =>
    intro k t h ans r he hc hl hb hs
    simp only [evCode, Option.some.injEq] at he
    subst he
    exact fun ρ a w RT RH => wpIn_exit ⟨rfl, ρ, [], rfl, Marks.nil, RT, RH, Fr.refl _ _ _ _ hl (Nat.le_refl _)⟩
  | ret =>
    intro k t h ans r he hc hl hb hs
    simp only [evCode, Option.some.injEq] at he
    subst he
    exact fun ρ a w RT RH => wpIn_ret ⟨rfl, ρ, [], rfl, Marks.nil, RT, RH, Fr.refl _ _ _ _ hl (Nat.le_refl _)⟩
  | region id ops draws =>
    intro k t h ans r he hc hl hb hs
    simp only [evCode] at he
    split at he
    · rename_i q hq
      simp only [Option.some.injEq] at he
      subst he
      intro ρ a w RT RH
      cases draws with
      | true => exact evDrawn_sound hm hcf hfn hL hl hq hc RH RT fun ρ' a' w' _ h1 h2 h3 h4 => ⟨rfl, ρ', [], h1, Marks.nil, h2, h3, h4⟩
      | false => exact wpIn_region_list (evOps_sound hcf hfn hL _ _ _ _ _ ρ a w hq hc hl RH RT fun ρ' a' w' _ h1 h2 h3 h4 => ⟨rfl, ρ', [], h1, Marks.nil, h2, h3, h4⟩)
    · cases he
  | seq x y ihx ihy =>
    intro k t h ans r he hc hl hb hs
    simp only [evCode] at he
    have hsx : ∀ j z, (rangesIn x)[j]? = some z → rangeAt c.P fi (k + j) = z := fun j z hz => hs j z (by simp only [rangesIn]; rw [List.getElem?_append_left (List.getElem?_eq_some_iff.1 hz).1]; exact hz)
    have hsy : ∀ j z, (rangesIn y)[j]? = some z → rangeAt c.P fi (k + (rangesIn x).length + j) = z := fun j z hz => by
      rw [Nat.add_assoc]
      exact hs _ z (by simp only [rangesIn]; rw [List.getElem?_append_right (by omega), Nat.add_sub_cancel_left]; exact hz)
    split at he
    · cases he
    · rename_i r1 hr1
      split at he
      · rename_i hn
        split at he
        · cases he
        · rename_i q hq
          simp only [Option.some.injEq] at he
          subst he
          have h1 := ihx _ _ _ _ _ hr1 (fun p hp => hc p (List.mem_append_left _ hp)) hl hb hsx
          rw [hn] at h1
          intro ρ a w RT RH
          refine wpIn_seq (h1.go RT RH fun ρ1 a1 w1 ms1 d1 M1 RT1 RH1 F1 => ?_)
          have h2 := ihy _ _ _ _ _ hq (fun p hp => hc p (List.mem_append_right _ hp)) (Nat.le_trans hl F1.len) (fun b e => Nat.lt_of_lt_of_le (hb b e) F1.len) hsy
          have := h2 ρ1 a1 w1 RT1 RH1
          rw [rndOf_ren hb F1.ren] at this
          exact wpIn_mono this fun z a2 w2 ⟨hz, ρ2, ms2, d2, M2, RT2, RH2, F2⟩ => ⟨hz, ρ2, ms2 ++ ms1, by rw [d2, d1, List.append_assoc], Marks.trans M1 M2 F1.size (fun D hD => F2.keep RH1 hD), RT2, RH2, F1.trans (F2.fewer F1.len hl)⟩
      · rename_i hne
        simp only [Option.some.injEq] at he
        subst he
        have h1 := ihx _ _ _ _ _ hr1 hc hl hb hsx
        intro ρ a w RT RH
        refine wpIn_seq (h1.go RT RH fun ρ1 a1 w1 ms1 d1 M1 RT1 RH1 F1 => ?_)
        cases he : r1.e with
        | normal => exact absurd he hne
        | exit i => exact ⟨rfl, ρ1, ms1, d1, M1, RT1, RH1, F1⟩
        | ret => exact ⟨rfl, ρ1, ms1, d1, M1, RT1, RH1, F1⟩
  | cond x y z ihy ihz =>
    intro k t h ans r he hc hl hb hs
    simp only [evCode] at he
    have hsy : ∀ j q, (rangesIn y)[j]? = some q → rangeAt c.P fi (k + j) = q := fun j q hq => hs j q (by simp only [rangesIn]; rw [List.getElem?_append_left (List.getElem?_eq_some_iff.1 hq).1]; exact hq)
    have hsz : ∀ j q, (rangesIn z)[j]? = some q → rangeAt c.P fi (k + (rangesIn y).length + j) = q := fun j q hq => by
      rw [Nat.add_assoc]
      exact hs _ q (by simp only [rangesIn]; rw [List.getElem?_append_right (by omega), Nat.add_sub_cancel_left]; exact hq)
    split at he
    · rename_i hlit
      intro ρ a w RT RH
      refine wpIn_cond (litOf_eval RH RT hlit) ?_
      exact ihy _ _ _ _ _ he hc hl hb hsy ρ a w RT RH
    · rename_i hlit
      intro ρ a w RT RH
      refine wpIn_cond (litOf_eval RH RT hlit) ?_
      exact ihz _ _ _ _ _ he hc hl hb hsz ρ a w RT RH
    · split at he
      · rename_i b hbv
        split at he
        · rename_i q ans' cons hq
          split at he
          · cases he
          · rename_i r1 hr1
            simp only [Option.some.injEq] at he
            subst he
            have hbq : b = q := askB_ok hq fun p hp => hc p (List.mem_append_left _ hp)
            subst hbq
            intro ρ a w RT RH
            have hev := opnd_eval RH RT hbv
            refine wpIn_cond hev ?_
            cases b with
            | true => exact ihy _ _ _ _ _ hr1 (fun p hp => hc p (List.mem_append_right _ hp)) hl hb hsy ρ a w RT RH
            | false => exact ihz _ _ _ _ _ hr1 (fun p hp => hc p (List.mem_append_right _ hp)) hl hb hsz ρ a w RT RH
        · cases he
      · cases he
  | block id x ih =>
    intro k t h ans r he hc hl hb hs
    simp only [evCode] at he
    split at he
    · cases he
    · rename_i r1 hr1
      simp only [Option.some.injEq] at he
      subst he
      intro ρ a w RT RH
      refine wpIn_block ((ih _ _ _ _ _ hr1 hc hl hb hs).go RT RH fun ρ1 a1 w1 ms1 d1 M1 RT1 RH1 F1 => ?_)
      cases he : r1.e with
      | normal => exact ⟨rfl, ρ1, ms1, d1, M1, RT1, RH1, F1⟩
      | ret => exact ⟨rfl, ρ1, ms1, d1, M1, RT1, RH1, F1⟩
      | exit i =>
        simp only [Ex.to, Exit.inBlock]
        by_cases hi : i = id
        · rw [if_pos hi]
          exact ⟨by simp [hi, Ex.to], ρ1, ms1, d1, M1, RT1, RH1, F1⟩
        · rw [if_neg hi]
          exact ⟨by simp [hi, Ex.to], ρ1, ms1, d1, M1, RT1, RH1, F1⟩
  | scope x ih =>
    intro k t h ans r he hc hl hb hs
    simp only [evCode] at he
    intro ρ a w RT RH
    refine wpIn_scope_straight ((ih _ _ _ _ _ he hc hl hb hs).go RT RH fun ρ1 a1 w1 ms1 d1 M1 RT1 RH1 F1 => ?_)
    cases he : r.e with
    | normal => exact ⟨rfl, ρ1, ms1, d1, M1, RT1, RH1, F1⟩
    | ret => exact ⟨rfl, ρ1, ms1, d1, M1, RT1, RH1, F1⟩
    | exit i => exact ⟨rfl, ρ1, ms1, d1, M1, RT1, RH1, F1⟩
  | loop x ih =>
    intro k t h ans r he hc hl hb hs
    simp only [evCode] at he
    split at he
    · split at he
      · simp only [Option.some.injEq] at he
        subst he
        exact hc _ List.mem_cons_self
      · cases he
    · exact runs_loop (iter_sound hl hb (fun t' h' ans' r' hn h1 h2 => (ih _ _ _ _ _ h1 h2 (Nat.le_trans hl hn) (fun b e => Nat.lt_of_lt_of_le (hb b e) hn) hs).fewer hn hl) _ _ _ _ _ he hc (Nat.le_refl _))
  | rangeFunc g ps x y _ ih =>
    intro k t h ans r he hc hl hb hs
    have hr0 : rangeAt c.P fi k = (ps, x, y) := hs 0 _ rfl
    simp only [evCode] at he
    split at he
    · rename_i gf first cap hg
      split at he
      · rename_i hchk
        simp only [Bool.and_eq_true] at hchk
        obtain ⟨⟨c1, c2⟩, c3⟩ := hchk
        split at he
        · rename_i out hout
          split at he
          · rename_i q hq
            have main : ∀ e, (r = ⟨e, t, out.h.set h.length none, out.ans, out.cons⟩) → q.st ≠ .busy → q.st.pend = e.code → Runs c lim h.length rnd (.rangeFunc g ps x y) t h r.e r.t r.h := fun e hre hnb hpend => by
              subst hre
              intro ρ a w RT RH
              refine wpIn_rangeFunc fun fn _ => ?_
              obtain ⟨l, mark, w1, D, e1, e2, e3, e4, e5, e6, e7, e8, M1⟩ := enter_ok (P := c.P) RH c2 fn a.tmps ps x y
              have eg := opnd_eval RH RT hg
              have hu := opnd_under RH RT hg
              simp only [V.conc] at eg
              simp only [V.under, Bool.and_eq_true] at hu
              obtain ⟨f0, f1, f2, f3⟩ := hfn gf c1
              have hag : ∀ i, i < h.length → (ρ.push h.length (Loc.at l)).blk i = ρ.blk i := fun i hi => push_old hi
              have RH1 : RelH c (ρ.push h.length (Loc.at l)) (h ++ [some (.rcd ⟨t, fi, k, .ready⟩)]) w1 := by
                refine relH_push RH ?_ ⟨rfl, fn, ρ.unk, D, ?_⟩ (fun i hi => e4 _ (RH.lt hi)) (fun _ i hi e => ?_)
                · simp only [Blk.under, List.all_eq_true]
                  exact fun v hv => V.slotOk_mono (by omega) v (List.all_eq_true.1 c3 v hv)
                · rw [show (Loc.at l).n = l from rfl, e2]
                  have ht : (concs ⟨(ρ.push h.length (Loc.at l)).blk, ρ.unk⟩ t).toArray = a.tmps := by
                    rw [RT.tmps, slots_agree hag ρ.unk c3]
                  simp only [Rec.loop, hr0, RSt.state, RSt.pend, ht]
                · have h9 := RH.lt hi
                  have h10 : (ρ.blk i).n = l := e
                  omega
              have F1 : Fr lim h.length ρ h w (ρ.push h.length (Loc.at l)) (h ++ [some (.rcd ⟨t, fi, k, .ready⟩)]) w1 := fr_push hl e5 e6 e7 e8 e4 fun _ => e3
              have hargs : concs (ρ.push h.length (Loc.at l)) (first ++ [.yld h.length] ++ cap) = concs ρ first ++ [Value.func (.yield l) #[] #[]] ++ concs ρ cap := by
                rw [concs_append, concs_append, concs_agree hag _ hu.1, concs_agree hag _ hu.2]
                simp only [concs, V.conc, push_new, Loc.at]
              have hcall := hcf.call gf _ _ lim ans out hout hc hL (by simp; omega) _ w1 RH1 (by
                refine unders_append (unders_append (unders_mono (by simp) _ hu.1) ?_) (unders_mono (by simp) _ hu.2)
                simp [unders, V.under])
              rw [hargs] at hcall
              refine ⟨l, mark, w1, { target := .fn (.func gf) (concs ρ cap).toArray, args := (concs ρ first).toArray ++ #[Value.func (.yield l) #[] #[]] }, w1, gf, (concs ρ first ++ [Value.func (.yield l) #[] #[]] ++ concs ρ cap).toArray, w1, e1, ?_, fun _ _ => trivial, ?_, fun hn => (by cases hn), ?_⟩
              · have ey : a.eval (.const (Value.func (.yield l) #[] #[])) = Value.func (.yield l) #[] #[] := rfl
                generalize a.eval = ev at eg ey ⊢
                simp only [resolve, rangeCall, eg, Deferred.ofValue, Sem.run_pure, List.map_toArray, List.map_cons, List.map_nil, ey]
              · have h2' : ¬ f0.name = "runtime.NumGoroutine" := by simpa using f2
                have h3' : ¬ f0.body = none := by intro hn; rw [hn] at f3; cases f3
                simp [invoke, callFunc, go_sem, f1, h2', h3']
              · have hcall' : CallsIn (FW (rndOf ρ rnd)) (0 - 1) c.P gf (concs ρ first ++ [Value.func (.yield l) #[] #[]] ++ concs ρ cap).toArray w1 (Post c lim (ρ.push h.length (Loc.at l)) (h ++ [some (.rcd ⟨t, fi, k, .ready⟩)]) w1 out.v out.h) := (callsIn_wide (n := 0 - 1)).2 hcall
                refine CallsIn.mono hcall' fun e3' w3 hp => ?_
                obtain ⟨ρ2, k1, rfl, RH3, F2, k5⟩ := hp
                have hbl : ρ2.blk h.length = Loc.at l := by rw [F2.ren _ (by simp), push_new]
                obtain ⟨hn, fn', u, D', g1⟩ := RH3.cell h.length _ hq
                rw [hbl] at g1
                have hend := run_endLoop (P := c.P) g1 (by simp only [Rec.loop]; cases hst : q.st with
                  | ready => simp [RSt.state]
                  | busy => exact absurd hst hnb
                  | done e => simp [RSt.state])
                obtain ⟨p1, p2, p3⟩ := putObj_rel (lim := lim) RH3 (X := none) (o := .loop { q.loop c.P ρ2 fn' u D' with state := .exhausted }) hq (by omega) (by omega) (fun B' e => by cases e)
                rw [hbl] at p1 p2 p3
                generalize (w3.putObj (Loc.at l).n (.loop { q.loop c.P ρ2 fn' u D' with state := .exhausted })) = w4 at hend p1 p2 p3
                refine ⟨_, _, hend, ?_⟩
                have hpen : (q.loop c.P ρ2 fn' u D').pending = e.code := hpend
                rw [hpen]
                have hfin : e.to = e.to ∧ ∃ ρ' ms, ({ a with defers := mark ++ a.defers } : Act).defers = ms ++ a.defers ∧ Marks w w4 ms ∧ RelT ρ' (out.h.set h.length none).length t { a with defers := mark ++ a.defers } ∧ RelH c ρ' (out.h.set h.length none) w4 ∧ Fr lim h.length ρ h w ρ' (out.h.set h.length none) w4 := by
                  have hlen2 : h.length + 1 ≤ out.h.length := by have := F2.len; simpa using this
                  refine ⟨rfl, ρ2, mark, rfl, M1.keep fun E hE => p3 E _ (F2.keep RH1 hE), ⟨?_, fun v hv => V.slotOk_mono (by rw [List.length_set]; omega) v (List.all_eq_true.1 c3 v hv)⟩, p1, F1.trans ((F2.fewer (by simp) hl).trans (p2.fewer (by omega) hl))⟩
                  show a.tmps = _
                  rw [RT.tmps]
                  congr 1
                  rw [concs_map, concs_map]
                  exact List.map_congr_left fun v hv => (V.slot_agree (n := h.length) (fun i hi => by rw [F2.ren i (by simp; omega), push_old hi]) (by rw [k1]; rfl) v (List.all_eq_true.1 c3 v hv)).symm
                cases e with
                | normal => exact hfin
                | exit id => exact wpIn_exit hfin
                | ret => exact wpIn_ret hfin
            split at he
            · rename_i hst
              simp only [Option.some.injEq] at he
              exact main .normal he.symm (by rw [hst]; simp) (by rw [hst]; rfl)
            · rename_i e hst
              simp only [Option.some.injEq] at he
              exact main e he.symm (by rw [hst]; simp) (by rw [hst]; rfl)
            · cases he
          · cases he
        · cases he
      · cases he
    · cases he
  | goto l => intro k t h ans r he; simp [evCode] at he
  | refuse s => intro k t h ans r he; simp [evCode] at he
end
end Go.Proofs.Ytcibaankajfhlaa.E2
end
section
namespace Go.Proofs.Ytcibaankajfhlaa.E2
open Go Go.RowKit
def Dfr.conc (ρ : Ren) (d : Dfr) : Deferred := { target := .fn (.func d.f) (concs ρ d.cap).toArray, args := (concs ρ d.xs).toArray }
def Dfr.under (n : Nat) (d : Dfr) : Bool := unders n d.xs && unders n d.cap
theorem Dfr.agree {ρ ρ' : Ren} {n : Nat} (h : ∀ i, i < n → ρ'.blk i = ρ.blk i) (d : Dfr) (hu : d.under n = true) : d.conc ρ' = d.conc ρ := by
  simp only [Dfr.under, Bool.and_eq_true] at hu
  simp only [Dfr.conc, concs_agree h _ hu.1, concs_agree h _ hu.2]
theorem Dfr.under_mono {n m : Nat} (h : n ≤ m) (d : Dfr) (hu : d.under n = true) : d.under m = true := by
  simp only [Dfr.under, Bool.and_eq_true] at hu ⊢
  exact ⟨unders_mono h _ hu.1, unders_mono h _ hu.2⟩
inductive DE where
  | mark (D : Nat)
  | call (d : Dfr)
def DE.conc (ρ : Ren) : DE → Deferred
  | .mark D => markOf D
  | .call d => d.conc ρ
def marksOf : List DE → List Nat
  | [] => []
  | .mark D :: l => D :: marksOf l
  | .call _ :: l => marksOf l
def callsOf : List DE → List Dfr
  | [] => []
  | .mark _ :: l => callsOf l
  | .call d :: l => d :: callsOf l
theorem marksOf_append : ∀ l m : List DE, marksOf (l ++ m) = marksOf l ++ marksOf m
  | [], m => rfl
  | .mark D :: l, m => by simp [marksOf, marksOf_append l m]
  | .call d :: l, m => by simp [marksOf, marksOf_append l m]
theorem callsOf_append : ∀ l m : List DE, callsOf (l ++ m) = callsOf l ++ callsOf m
  | [], m => rfl
  | .mark D :: l, m => by simp [callsOf, callsOf_append l m]
  | .call d :: l, m => by simp [callsOf, callsOf_append l m]
theorem marksOf_marks : ∀ l : List Nat, marksOf (l.map DE.mark) = l
  | [] => rfl
  | D :: l => by simp [marksOf, marksOf_marks l]
theorem callsOf_marks : ∀ l : List Nat, callsOf (l.map DE.mark) = []
  | [] => rfl
  | D :: l => by simp [callsOf, callsOf_marks l]
theorem marksOf_calls : ∀ l : List Dfr, marksOf (l.map DE.call) = []
  | [] => rfl
  | D :: l => by simp [marksOf, marksOf_calls l]
theorem callsOf_calls : ∀ l : List Dfr, callsOf (l.map DE.call) = l
  | [] => rfl
  | D :: l => by simp [callsOf, callsOf_calls l]
theorem DE.agree {ρ ρ' : Ren} {n : Nat} (h : ∀ i, i < n → ρ'.blk i = ρ.blk i) : ∀ l : List DE, (∀ d ∈ callsOf l, d.under n = true) → l.map (DE.conc ρ') = l.map (DE.conc ρ)
  | [], _ => rfl
  | .mark D :: l, hu => by
    simp only [List.map_cons, DE.agree h l hu]
    rfl
  | .call d :: l, hu => by
    have h1 := Dfr.agree h d (hu d List.mem_cons_self)
    simp only [List.map_cons, DE.agree h l fun x hx => hu x (List.mem_cons_of_mem _ hx)]
    simp only [DE.conc, h1]
structure Mix (n : Nat) (w0 w : World) (L : List DE) : Prop where
  nodup : (marksOf L).Nodup
  marks : ∀ D ∈ marksOf L, w0.heap.size ≤ D ∧ w.heap[D]? = some (.deferred (some []))
  sco : ∀ d ∈ callsOf L, d.under n = true
theorem Mix.nil {n : Nat} {w0 w : World} : Mix n w0 w [] := ⟨List.nodup_nil, fun D hD => (by cases hD), fun d hd => (by cases hd)⟩
theorem Mix.calls {n : Nat} {w0 w : World} {ds : List Dfr} (h : ∀ d ∈ ds, d.under n = true) : Mix n w0 w (ds.map DE.call) :=
  ⟨by rw [marksOf_calls]; exact List.nodup_nil, fun D hD => (by rw [marksOf_calls] at hD; cases hD), by rw [callsOf_calls]; exact h⟩
theorem Mix.trans {n m : Nat} {w0 w1 w2 : World} {L L' : List DE} (h : Mix n w0 w1 L) (h' : Mix m w1 w2 L') (hnm : n ≤ m) (hs : w0.heap.size ≤ w1.heap.size) (hk : ∀ D : Nat, w1.heap[D]? = some (.deferred (some [])) → w2.heap[D]? = some (.deferred (some []))) : Mix m w0 w2 (L' ++ L) := by
  refine ⟨?_, fun D hD => ?_, fun d hd => ?_⟩
  · rw [marksOf_append, List.nodup_append]
    refine ⟨h'.nodup, h.nodup, fun x hx y hy e => ?_⟩
    subst e
    have h4 := (h'.marks x hx).1
    have h5 := (Array.getElem?_eq_some_iff.1 (h.marks x hy).2).1
    omega
  · rw [marksOf_append] at hD
    rcases List.mem_append.1 hD with h4 | h4
    · exact ⟨Nat.le_trans hs (h'.marks D h4).1, (h'.marks D h4).2⟩
    · exact ⟨(h.marks D h4).1, hk D (h.marks D h4).2⟩
  · rw [callsOf_append] at hd
    rcases List.mem_append.1 hd with h4 | h4
    · exact h'.sco d h4
    · exact Dfr.under_mono hnm d (h.sco d h4)
section
variable {c : Cfg} {lim : Nat}
def RunsT (c : Cfg) (lim n : Nat) (code : Code) (t : List V) (h : Heap) (e : Ex) (t' : List V) (h' : Heap) (ds : List Dfr) : Prop :=
  ∀ ρ a w, RelT ρ h.length t a → RelH c ρ h w → code.wpIn (FW none) 0 c.P (fun x a' w' => x = e.to ∧ ∃ ρ' L, a'.defers = L.map (DE.conc ρ') ++ a.defers ∧ callsOf L = ds ∧ Mix h'.length w w' L ∧ RelT ρ' h'.length t' a' ∧ RelH c ρ' h' w' ∧ Fr lim n ρ h w ρ' h' w') a w
theorem runsT_of {n : Nat} {code : Code} {t t' : List V} {h h' : Heap} {e : Ex} (hr : Runs c lim n none code t h e t' h') : RunsT c lim n code t h e t' h' [] :=
  fun ρ a w RT RH => wpIn_mono (hr ρ a w RT RH) fun x a' w' ⟨hx, ρ', ms, h1, ⟨Ds, h2, h3, h4⟩, h5, h6, h7⟩ => by
    refine ⟨hx, ρ', Ds.map DE.mark, ?_, callsOf_marks _, ⟨by rw [marksOf_marks]; exact h3, by rw [marksOf_marks]; exact h4, by rw [callsOf_marks]; intro d hd; cases hd⟩, h5, h6, h7⟩
    rw [h1, h2, List.map_map]
    rfl
theorem dfrV_ok {ρ : Ren} {h : Heap} {w : World} {t : List V} {a : Act} {o : Oper} {d : Dfr} (RH : RelH c ρ h w) (RT : RelT ρ h.length t a) (hd : dfrV c t o = some d) :
    (execOp a.eval o).run c.P w = .ok (.defer (d.conc ρ)) w ∧ d.under h.length = true ∧ c.fns d.f = true := by
  obtain ⟨dst, op, ty, pos, after, guard⟩ := o
  unfold dfrV at hd
  dsimp only at hd
  split at hd
  · rename_i g args ats
    split at hd
    · rename_i f first cap xs hg hxs
      split at hd
      · rename_i hf
        simp only [Option.some.injEq] at hd
        subst hd
        obtain ⟨e1, u1⟩ := opnds_ok RH RT _ _ hxs
        have eg := opnd_eval RH RT hg
        have ug := opnd_under RH RT hg
        simp only [V.conc] at eg
        simp only [V.under, Bool.and_eq_true] at ug
        refine ⟨?_, ?_, hf⟩
        · have hargs : args.map a.eval = (concs ρ xs).toArray := by apply Array.toList_inj.1; simpa using e1
          have hcc : ∀ (A B : List Value), A.toArray ++ B.toArray = (A ++ B).toArray := fun A B => by apply Array.toList_inj.1; simp
          simp only [Dfr.conc, concs_append]
          rw [← hcc, ← hargs]
          generalize a.eval = ev at eg ⊢
          simp only [execOp, resolve, eg, Deferred.ofValue, Sem.run_bind, Sem.run_pure, Result.andThen_ok]
        · simp only [Dfr.under, Bool.and_eq_true]
          exact ⟨unders_append ug.1 u1, ug.2⟩
      · cases hd
    · cases hd
  · cases hd
theorem evOpsT_sound {cf : CF} (hcf : CallOk c cf) (hfn : ∀ f, c.fns f = true → Callable c.P f) (hL : c.L ≤ lim) {ops : Array Oper} {Q : Exit → Act → World → Prop} :
    ∀ (l : List Oper) (t : List V) (h : Heap) (ans : List Ans) (q : ROut × List Dfr) (ρ : Ren) (a : Act) (w : World), evOpsT c cf lim ops l t h ans = some q → (∀ p ∈ q.1.cons, p) → lim ≤ h.length → RelH c ρ h w → RelT ρ h.length t a →
      (∀ ρ' a' w', ρ'.unk = ρ.unk → a'.defers = q.2.map (Dfr.conc ρ') ++ a.defers → (∀ d ∈ q.2, d.under q.1.h.length = true) → RelT ρ' q.1.h.length q.1.t a' → RelH c ρ' q.1.h w' → Fr lim h.length ρ h w ρ' q.1.h w' → Q .normal a' w') → wpListIn (FW none) 0 c.P ops Q l a w
  | [], t, h, ans, q, ρ, a, w, he, hc, hl, RH, RT, hQ => by
    simp only [evOpsT, Option.some.injEq] at he
    subst he
    exact wpListIn_nil (hQ ρ a w rfl rfl (fun d hd => by cases hd) RT RH (Fr.refl _ _ _ _ hl (Nat.le_refl _)))
  | o :: rest, t, h, ans, q, ρ, a, w, he, hc, hl, RH, RT, hQ => by
    simp only [evOpsT] at he
    split at he
    · rename_i hisd
      split at he
      · rename_i d hd hg
        split at he
        · cases he
        · rename_i q1 hq
          simp only [Option.some.injEq] at he
          subst he
          obtain ⟨r1, r2, _⟩ := dfrV_ok RH RT hd
          refine wpListIn_plain hg fun K hK => ⟨fun _ _ => trivial, ?_⟩
          show o.uponIn (FW none) 0 c.P a K Q ((execOp a.eval o).run c.P w)
          rw [r1]
          show K ({ a with defers := d.conc ρ :: a.defers }.put o.dst undef) w
          refine hK _ _ ?_
          have RT2 : RelT ρ h.length (putT t o.dst (.raw undef)) ({ a with defers := d.conc ρ :: a.defers }.put o.dst undef) := by
            have := relT_put (ρ' := ρ) (a := { a with defers := d.conc ρ :: a.defers }) ⟨RT.tmps, RT.sco⟩ (fun _ _ => rfl) rfl (Nat.le_refl _) (v := .raw undef) rfl o.dst
            exact this
          refine evOpsT_sound hcf hfn hL rest _ _ _ q1 ρ _ w hq hc hl RH RT2 fun ρ' a' w' hu' hd' hun RT' RH' F' => ?_
          refine hQ ρ' a' w' hu' ?_ (fun x hx => ?_) RT' RH' F'
          · rw [hd', put_defers, List.map_append, List.append_assoc]
            simp only [List.map_cons, List.map_nil, List.singleton_append, Dfr.agree F'.ren d r2]
          · rcases List.mem_append.1 hx with h1 | h1
            · exact hun x h1
            · rw [List.mem_singleton] at h1
              subst h1
              exact Dfr.under_mono F'.len _ r2
      · cases he
    · split at he
      · cases he
      · rename_i g hg
        split at he
        · rename_i hw
          split at he
          · cases he
          · rename_i r1 hr1
            split at he
            · cases he
            · rename_i q1 hq
              simp only [Option.some.injEq] at he
              subst he
              obtain ⟨h1, RT1⟩ := evGuard_sound hg (fun p hp => hc p (List.mem_append_left _ hp)) RT
              refine wpListIn_step fun K hK => ?_
              rw [h1, hw, if_pos rfl]
              refine evOp_sound hcf hfn hr1 (fun p hp => hc p (List.mem_append_right _ (List.mem_append_left _ hp))) RH RT1 hL hl fun ρ1 w1 hu1 RH1 F1 hv1 => hK _ _ ?_
              have RT2 := relT_put RT1 F1.ren hu1 F1.len (V.slot_of_under _ hv1) o.dst
              refine evOpsT_sound hcf hfn hL rest _ _ _ q1 ρ1 _ w1 hq (fun p hp => hc p (List.mem_append_right _ (List.mem_append_right _ hp))) (Nat.le_trans hl F1.len) RH1 RT2 fun ρ' a' w' hu' hd' hun RT' RH' F' => ?_
              exact hQ ρ' a' w' (hu'.trans hu1) (by rw [hd', put_defers]) hun RT' RH' (F1.trans (F'.fewer F1.len hl))
        · rename_i hw
          split at he
          · cases he
          · rename_i q1 hq
            simp only [Option.some.injEq] at he
            subst he
            obtain ⟨h1, RT1⟩ := evGuard_sound hg (fun p hp => hc p (List.mem_append_left _ hp)) RT
            refine wpListIn_step fun K hK => ?_
            rw [h1, hw, if_neg (by simp)]
            refine ⟨fun _ _ => trivial, hK _ _ ?_⟩
            have RT2 := relT_put (ρ' := ρ) RT1 (fun _ _ => rfl) rfl (Nat.le_refl _) (v := .raw undef) rfl o.dst
            refine evOpsT_sound hcf hfn hL rest _ _ _ q1 ρ _ w hq (fun p hp => hc p (List.mem_append_right _ hp)) hl RH RT2 fun ρ' a' w' hu' hd' hun RT' RH' F' => ?_
            exact hQ ρ' a' w' hu' (by rw [hd', put_defers]) hun RT' RH' F'
theorem evTop_sound (hm : c.P.follows .mixedOrders = true) {cf : CF} (hcf : CallOk c cf) (hfn : ∀ f, c.fns f = true → Callable c.P f) (hL : c.L ≤ lim) {fi : Nat} :
    ∀ (code : Code) (k : Nat) (t : List V) (h : Heap) (ans : List Ans) (r : TOut), evTop c cf lim fi code k t h ans = some r → (∀ p ∈ r.o.cons, p) → lim ≤ h.length → (∀ j x, (rangesIn code)[j]? = some x → rangeAt c.P fi (k + j) = x) → RunsT c lim h.length code t h r.o.e r.o.t r.o.h r.ds := by
  intro code
  have leaf : ∀ (code : Code) (k : Nat) (t : List V) (h : Heap) (ans : List Ans) (r : TOut), (match evCode c cf lim none fi code k t h ans with
      | some r => some (⟨r, []⟩ : TOut)
      | none => none) = some r → (∀ p ∈ r.o.cons, p) → lim ≤ h.length → (∀ j x, (rangesIn code)[j]? = some x → rangeAt c.P fi (k + j) = x) → RunsT c lim h.length code t h r.o.e r.o.t r.o.h r.ds := by
    intro code k t h ans r he hc hl hs
    split at he
    · rename_i r1 hr1
      simp only [Option.some.injEq] at he
      subst he
      exact runsT_of (evCode_sound hm hcf hfn hL (rnd := none) code k t h ans r1 hr1 hc hl (fun b e => by cases e) hs)
    · cases he
  induction code with
  | seq x y ihx ihy =>
    intro k t h ans r he hc hl hs
    simp only [evTop] at he
    have hsx : ∀ j z, (rangesIn x)[j]? = some z → rangeAt c.P fi (k + j) = z := fun j z hz => hs j z (by simp only [rangesIn]; rw [List.getElem?_append_left (List.getElem?_eq_some_iff.1 hz).1]; exact hz)
    have hsy : ∀ j z, (rangesIn y)[j]? = some z → rangeAt c.P fi (k + (rangesIn x).length + j) = z := fun j z hz => by
      rw [Nat.add_assoc]
      exact hs _ z (by simp only [rangesIn]; rw [List.getElem?_append_right (by omega), Nat.add_sub_cancel_left]; exact hz)
    split at he
    · cases he
    · rename_i r1 hr1
      split at he
      · rename_i hn
        split at he
        · cases he
        · rename_i q hq
          simp only [Option.some.injEq] at he
          subst he
          have h1 := ihx _ _ _ _ _ hr1 (fun p hp => hc p (List.mem_append_left _ hp)) hl hsx
          rw [hn] at h1
          intro ρ a w RT RH
          refine wpIn_seq (wpIn_mono (h1 ρ a w RT RH) fun z a1 w1 ⟨hz, ρ1, L1, d1, e1, M1, RT1, RH1, F1⟩ => ?_)
          subst hz
          have h2 := ihy _ _ _ _ _ hq (fun p hp => hc p (List.mem_append_right _ hp)) (Nat.le_trans hl F1.len) hsy
          exact wpIn_mono (h2 ρ1 a1 w1 RT1 RH1) fun z a2 w2 ⟨hz, ρ2, L2, d2, e2, M2, RT2, RH2, F2⟩ => ⟨hz, ρ2, L2 ++ L1, by rw [d2, d1, List.map_append, List.append_assoc, DE.agree F2.ren L1 M1.sco], by rw [callsOf_append, e1, e2],
            Mix.trans M1 M2 F2.len F1.size (fun D hD => F2.keep RH1 hD), RT2, RH2, F1.trans (F2.fewer F1.len hl)⟩
      · rename_i hne
        simp only [Option.some.injEq] at he
        subst he
        have h1 := ihx _ _ _ _ _ hr1 hc hl hsx
        intro ρ a w RT RH
        refine wpIn_seq (wpIn_mono (h1 ρ a w RT RH) fun z a1 w1 ⟨hz, ρ1, L1, rest⟩ => ?_)
        subst hz
        cases he : r1.o.e with
        | normal => exact absurd he hne
        | exit i => exact ⟨rfl, ρ1, L1, rest⟩
        | ret => exact ⟨rfl, ρ1, L1, rest⟩
  | scope x ih =>
    intro k t h ans r he hc hl hs
    simp only [evTop] at he
    intro ρ a w RT RH
    refine wpIn_scope_straight (wpIn_mono (ih _ _ _ _ _ he hc hl hs ρ a w RT RH) fun z a1 w1 ⟨hz, ρ1, L1, rest⟩ => ?_)
    subst hz
    cases he : r.o.e with
    | normal => exact ⟨rfl, ρ1, L1, rest⟩
    | exit i => exact ⟨rfl, ρ1, L1, rest⟩
    | ret => exact ⟨rfl, ρ1, L1, rest⟩
  | region id ops draws =>
    intro k t h ans r he hc hl hs
    simp only [evTop] at he
    split at he
    · rename_i r1 hr1
      simp only [Option.some.injEq] at he
      subst he
      exact runsT_of (evCode_sound hm hcf hfn hL (rnd := none) _ k t h ans r1 hr1 hc hl (fun b e => by cases e) hs)
    · split at he
      · cases he
      · split at he
        · cases he
        · rename_i q hq
          simp only [Option.some.injEq] at he
          subst he
          exact fun ρ a w RT RH => wpIn_region_list (evOpsT_sound hcf hfn hL _ _ _ _ _ ρ a w hq hc hl RH RT fun ρ' a' w' _ h1 h2 h3 h4 h5 => ⟨rfl, ρ', q.2.map DE.call, by rw [h1, List.map_map]; rfl, callsOf_calls _, Mix.calls h2, h3, h4, h5⟩)
  | skip => intro k t h ans r he; simp only [evTop] at he; exact leaf _ k t h ans r he
  | label l => intro k t h ans r he; simp only [evTop] at he; exact leaf _ k t h ans r he
  | exit id => intro k t h ans r he; simp only [evTop] at he; exact leaf _ k t h ans r he
  | ret => intro k t h ans r he; simp only [evTop] at he; exact leaf _ k t h ans r he
  | cond x y z => intro k t h ans r he; simp only [evTop] at he; exact leaf _ k t h ans r he
  | block id x => intro k t h ans r he; simp only [evTop] at he; exact leaf _ k t h ans r he
  | loop x => intro k t h ans r he; simp only [evTop] at he; exact leaf _ k t h ans r he
  | rangeFunc g ps x y => intro k t h ans r he; simp only [evTop] at he; exact leaf _ k t h ans r he
  | goto l => intro k t h ans r he; simp only [evTop] at he; exact leaf _ k t h ans r he
  | refuse s => intro k t h ans r he; simp only [evTop] at he; exact leaf _ k t h ans r he
def Md.conc (ρ : Ren) : Md → FrameMode
  | .ret => .returning
  | .pan v r => .panicking [{ v := v.conc ρ, recovered := r }]
def Md.under (n : Nat) : Md → Bool
  | .ret => true
  | .pan v _ => v.under n
theorem Md.agree {ρ ρ' : Ren} {n : Nat} (h : ∀ i, i < n → ρ'.blk i = ρ.blk i) (m : Md) (hu : m.under n = true) : m.conc ρ' = m.conc ρ := by
  cases m with
  | ret => rfl
  | pan v r => simp only [Md.conc]; rw [V.conc_agree h v hu]
theorem Md.under_mono {n k : Nat} (h : n ≤ k) (m : Md) (hu : m.under n = true) : m.under k = true := by
  cases m with
  | ret => rfl
  | pan v r => exact V.under_mono h v hu
theorem recV_ok {ρ : Ren} {n : Nat} {m : Md} (hu : m.under n = true) : (recV m).1.under n = true ∧ (recV m).2.under n = true ∧ ∀ (c0 : Frame) (cs : List Frame), c0.mode = m.conc ρ →
    (recoverD (c0 :: cs) = none ∧ (recV m).1 = .raw .nilIface ∧ (recV m).2 = m) ∨ recoverD (c0 :: cs) = some ((recV m).1.conc ρ, { c0 with mode := (recV m).2.conc ρ } :: cs) := by
  cases m with
  | ret => exact ⟨rfl, rfl, fun c0 cs h => .inl ⟨by simp only [Md.conc] at h; simp [recoverD, h], rfl, rfl⟩⟩
  | pan v r =>
    cases r with
    | true => exact ⟨rfl, hu, fun c0 cs h => .inl ⟨by simp only [Md.conc] at h; simp [recoverD, h], rfl, rfl⟩⟩
    | false => exact ⟨hu, hu, fun c0 cs h => .inr (by simp only [Md.conc] at h; simp [recoverD, h, recV, Md.conc])⟩
section
variable {F : Fence} {n : Nat} {P : Program} {Q : Exit → Act → List Frame → World → Prop} {a : Act} {cs : List Frame} {w : World}
theorem wpSIn_block {id : Nat} {x : Code} (h : x.wpSIn F n P (fun e a cs w => match e with
    | .exit i => if i = id then Q .normal a cs w else Q (.exit i) a cs w
    | .goto _ => False
    | e => Q e a cs w) a cs w) : (Code.block id x).wpSIn F n P Q a cs w := by
  intro b k hk hro hb hr
  have h0 : (lone (b.atR a (.code (.block id x) :: k)) cs w).fenced P F := fenced_calm hb hr rfl
  obtain ⟨e, a₁, cs₁, w₁, hl, hq, harr⟩ := h b (.inBlock id :: k) hk hro hb hr
  cases e with
  | normal => exact ⟨.normal, a₁, cs₁, w₁, hl, hq, .head h0 stepR_block (StepsIn.trans harr (.one (fenced_calm hb (hl ▸ hr) rfl) stepR_inBlock))⟩
  | exit id' =>
    by_cases hid : id' = id
    · simp only [hid, if_true] at hq
      exact ⟨.normal, a₁, cs₁, w₁, hl, hq, .head h0 stepR_block (harr.1 k (by simp [exitTo, hid]))⟩
    · simp only [hid, if_false] at hq
      have this : (id == id') = false := by simp; exact fun h => hid h.symm
      have hx : exitTo id' (.inBlock id :: k) = exitTo id' k := by simp [exitTo, this]
      exact ⟨.exit id', a₁, cs₁, w₁, hl, hq, fun k' hk => .head h0 stepR_block (harr.1 k' (by rw [hx]; exact hk)),
        fun hr' hk => let ⟨k₁, h1, h2⟩ := harr.2 hr' (by rw [hx]; exact hk); ⟨k₁, h1, .head h0 stepR_block h2⟩⟩
  | goto l => exact hq.elim
  | ret => exact ⟨_, a₁, cs₁, w₁, hl, hq, .of_steps (.one h0 stepR_block) harr⟩
  | panic ch => exact ⟨_, a₁, cs₁, w₁, hl, hq, .of_steps (.one h0 stepR_block) harr⟩
  | outgrown => exact ⟨_, a₁, cs₁, w₁, hl, hq, .of_steps (.one h0 stepR_block) harr⟩
theorem wpSIn_scope {x : Code} (h : x.wpSIn F n P (fun e a cs w => match e with
    | .goto _ => False
    | e => Q e a cs w) a cs w) : (Code.scope x).wpSIn F n P Q a cs w := by
  intro b k hk hro hb hr
  have s1 : step P (lone (b.atR a (.code (.scope x) :: k)) cs w) = .next (lone (b.atR a (.code x :: .inScope x :: k)) cs w) := step_lone_go (by simp [stepG, stepG.exec, Frame.atR])
  have s2 : ∀ a cs w, step P (lone (b.atR a (.inScope x :: k)) cs w) = .next (lone (b.atR a k) cs w) := fun a cs w => step_lone_go (by simp [stepG, stepG.exec, Frame.atR])
  have t1 : StepsIn (Machine.fenced P F) P (lone (b.atR a (.code (.scope x) :: k)) cs w) (lone (b.atR a (.code x :: .inScope x :: k)) cs w) := .one (fenced_calm hb hr rfl) s1
  obtain ⟨e, a₁, cs₁, w₁, hl, hq, harr⟩ := h b (.inScope x :: k) hk hro hb hr
  cases e with
  | normal => exact ⟨.normal, a₁, cs₁, w₁, hl, hq, StepsIn.trans t1 (StepsIn.trans harr (.one (fenced_calm hb (hl ▸ hr) rfl) (s2 a₁ cs₁ w₁)))⟩
  | exit id =>
    refine ⟨.exit id, a₁, cs₁, w₁, hl, hq, ?_⟩
    refine .of_steps t1 ?_
    have hx : exitTo id (.inScope x :: k) = exitTo id k := by simp [exitTo]
    exact ⟨fun k' hk => harr.1 k' (by rw [hx]; exact hk), fun hr' hk => harr.2 hr' (by rw [hx]; exact hk)⟩
  | goto l => exact hq.elim
  | ret => exact ⟨_, a₁, cs₁, w₁, hl, hq, .of_steps t1 harr⟩
  | panic ch => exact ⟨_, a₁, cs₁, w₁, hl, hq, .of_steps t1 harr⟩
  | outgrown => exact ⟨_, a₁, cs₁, w₁, hl, hq, .of_steps t1 harr⟩
theorem wpSIn_mono {x : Code} {Q' : Exit → Act → List Frame → World → Prop} (h : x.wpSIn F n P Q a cs w) (hQ : ∀ e a cs w, Q e a cs w → Q' e a cs w) : x.wpSIn F n P Q' a cs w :=
  fun b k hk hro hb hr => let ⟨e, a', cs', w', hl, q, r⟩ := h b k hk hro hb hr; ⟨e, a', cs', w', hl, hQ _ _ _ _ q, r⟩
end
theorem plainV_run {ρ : Ren} {h : Heap} {w : World} {t : List V} {a : Act} {o : Oper} {v : V} (RH : RelH c ρ h w) (RT : RelT ρ h.length t a) (hv : plainV c t o = some v) : (execOp a.eval o).run c.P w = .ok (.value (v.conc ρ)) w ∧ v.under h.length = true := by
  unfold plainV at hv
  split at hv
  · rename_i x hop
    refine ⟨?_, opnd_under RH RT hv⟩
    obtain ⟨dst, op, ty, pos, after, guard⟩ := o
    simp only at hop
    subst hop
    rw [← opnd_eval RH RT hv]
    rfl
  · rename_i x hop
    refine ⟨?_, opnd_under RH RT hv⟩
    obtain ⟨dst, op, ty, pos, after, guard⟩ := o
    simp only at hop
    subst hop
    rw [← opnd_eval RH RT hv]
    rfl
  · split at hv
    · rename_i l hl
      split at hv
      · rename_i hall
        split at hv
        · rename_i u hp
          simp only [Option.some.injEq] at hv
          subst hv
          rw [execOp_congr hl fun x hx => rawOf_eval RH RT (List.all_eq_true.1 hall x hx)] at hp
          exact ⟨pureRun_run hp w, rfl⟩
        · cases hv
      · cases hv
    · cases hv
theorem evOpsR_sound {ops : Array Oper} {Q : Exit → Act → List Frame → World → Prop} {ρ : Ren} {h : Heap} {w : World} (RH : RelH c ρ h w) {cs : List Frame} :
    ∀ (l : List Oper) (k : Nat), (∀ j, l[j]? = ops[k + j]?) → ∀ (t : List V) (m : Md) (ans : List Ans) (q : List V × Md × List Ans × List Prop) (a : Act) (c0 : Frame), evOpsR c ops l t m ans = some q → (∀ p ∈ q.2.2.2, p) → RelT ρ h.length t a → m.under h.length = true → c0.mode = m.conc ρ →
      (∀ a', a'.defers = a.defers → RelT ρ h.length q.1 a' → q.2.1.under h.length = true → Q .normal a' ({ c0 with mode := q.2.1.conc ρ } :: cs) w) → wpOpsSIn (FW none) 0 c.P ops Q (List.range' k l.length) a (c0 :: cs) w
  | [], k, hk, t, m, ans, q, a, c0, he, hc, RT, hm, h0, hQ => by
    simp only [evOpsR, Option.some.injEq] at he
    subst he
    have := hQ a rfl RT hm
    rw [show ({ c0 with mode := m.conc ρ } : Frame) = c0 by rw [← h0]] at this
    exact this
  | o :: rest, k, hk, t, m, ans, q, a, c0, he, hc, RT, hm, h0, hQ => by
    have hk' : ∀ j, rest[j]? = ops[k + 1 + j]? := fun j => by have := hk (j + 1); rw [List.getElem?_cons_succ] at this; rw [this]; congr 1; omega
    have ho : ops[k]? = some o := by have := hk 0; simpa using this.symm
    simp only [List.length_cons, List.range'_succ, wpOpsSIn, ho]
    refine ⟨fun _ _ => trivial, ?_⟩
    simp only [evOpsR] at he
    split at he
    · cases he
    · rename_i g hg
      split at he
      · rename_i hw
        split at he
        · rename_i hr
          split at he
          · cases he
          · rename_i q1 hq
            simp only [Option.some.injEq] at he
            subst he
            obtain ⟨h1, RT1⟩ := evGuard_sound hg (fun p hp => hc p (List.mem_append_left _ hp)) RT
            rw [h1, hw, if_pos rfl]
            have hrun : (execOp a.eval o).run c.P w = .ok .recover w := by
              obtain ⟨dst, op, ty, pos, after, guard⟩ := o
              unfold isRec at hr
              dsimp only at hr
              split at hr
              · generalize a.eval = ev
                simp [execOp, resolve, go_sem, invoke, builtin]
              · cases hr
            rw [hrun]
            obtain ⟨u1, u2, hrec⟩ := recV_ok (ρ := ρ) hm
            have RT2 := relT_put (ρ' := ρ) RT1 (fun _ _ => rfl) rfl (Nat.le_refl _) (V.slot_of_under _ u1) o.dst
            rcases hrec c0 cs h0 with ⟨e1, e2, e3⟩ | e1
            · simp only [e1]
              rw [e2] at RT2 hq
              rw [e3] at hq
              exact evOpsR_sound RH rest (k + 1) hk' _ _ _ q1 _ c0 hq (fun p hp => hc p (List.mem_append_right _ hp)) RT2 hm h0 fun a' hd' RT' hm' => hQ a' (hd'.trans put_defers) RT' hm'
            · simp only [e1]
              exact evOpsR_sound RH rest (k + 1) hk' _ _ _ q1 _ { c0 with mode := (recV m).2.conc ρ } hq (fun p hp => hc p (List.mem_append_right _ hp)) RT2 u2 rfl fun a' hd' RT' hm' => hQ a' (hd'.trans put_defers) RT' hm'
        · split at he
          · cases he
          · rename_i v hv
            split at he
            · cases he
            · rename_i q1 hq
              simp only [Option.some.injEq] at he
              subst he
              obtain ⟨h1, RT1⟩ := evGuard_sound hg (fun p hp => hc p (List.mem_append_left _ hp)) RT
              rw [h1, hw, if_pos rfl]
              obtain ⟨hrun, u1⟩ := plainV_run RH RT1 hv
              rw [hrun]
              have RT2 := relT_put (ρ' := ρ) RT1 (fun _ _ => rfl) rfl (Nat.le_refl _) (V.slot_of_under _ u1) o.dst
              exact evOpsR_sound RH rest (k + 1) hk' _ _ _ q1 _ c0 hq (fun p hp => hc p (List.mem_append_right _ hp)) RT2 hm h0 fun a' hd' RT' hm' => hQ a' (hd'.trans put_defers) RT' hm'
      · rename_i hw
        split at he
        · cases he
        · rename_i q1 hq
          simp only [Option.some.injEq] at he
          subst he
          obtain ⟨h1, RT1⟩ := evGuard_sound hg (fun p hp => hc p (List.mem_append_left _ hp)) RT
          rw [h1, hw, if_neg (by simp)]
          have RT2 := relT_put (ρ' := ρ) RT1 (fun _ _ => rfl) rfl (Nat.le_refl _) (v := .raw undef) rfl o.dst
          exact evOpsR_sound RH rest (k + 1) hk' _ _ _ q1 _ c0 hq (fun p hp => hc p (List.mem_append_right _ hp)) RT2 hm h0 fun a' hd' RT' hm' => hQ a' (hd'.trans put_defers) RT' hm'
def RunsR (c : Cfg) (lim n : Nat) (code : Code) (t : List V) (h : Heap) (m : Md) (e : Ex) (t' : List V) (h' : Heap) (m' : Md) : Prop :=
  ∀ ρ a w, RelT ρ h.length t a → RelH c ρ h w → m.under h.length = true → ∀ (c0 : Frame) (cs : List Frame), c0.mode = m.conc ρ →
    code.wpSIn (FW none) 0 c.P (fun x a' cs' w' => x = e.to ∧ a'.defers = a.defers ∧ m'.under h'.length = true ∧ ∃ ρ', ρ'.unk = ρ.unk ∧ cs' = { c0 with mode := m'.conc ρ' } :: cs ∧ RelT ρ' h'.length t' a' ∧ RelH c ρ' h' w' ∧ Fr lim n ρ h w ρ' h' w') a (c0 :: cs) w
theorem self_mode {c0 : Frame} {u : FrameMode} (h : c0.mode = u) : ({ c0 with mode := u } : Frame) = c0 := by subst h; rfl
theorem evCodeR_sound (hm : c.P.follows .mixedOrders = true) {cf : CF} (hcf : CallOk c cf) (hfn : ∀ f, c.fns f = true → Callable c.P f) (hL : c.L ≤ lim) :
    ∀ (code : Code) (t : List V) (h : Heap) (m : Md) (ans : List Ans) (r : RC), evCodeR c cf lim code t h m ans = some r → (∀ p ∈ r.cons, p) → lim ≤ h.length → RunsR c lim h.length code t h m r.e r.t r.h r.m := by
  intro code
  have leaf : ∀ {code : Code} {t : List V} {h : Heap} {m : Md} {e : Ex} {t' : List V} {h' : Heap}, (∀ ρ a w, RelT ρ h.length t a → RelH c ρ h w → code.wpIn (FW none) 0 c.P (fun x a' w' => x = e.to ∧ a'.defers = a.defers ∧ ∃ ρ', ρ'.unk = ρ.unk ∧ RelT ρ' h'.length t' a' ∧ RelH c ρ' h' w' ∧ Fr lim h.length ρ h w ρ' h' w') a w) →
      RunsR c lim h.length code t h m e t' h' m := by
    intro code t h m e t' h' hw ρ a w RT RH hmu c0 cs h0
    refine wpSIn_of_wpIn rfl (wpIn_mono (hw ρ a w RT RH) fun x a' w' ⟨h1, h2, ρ', h3, h4, h5, h6⟩ => ⟨h1, h2, Md.under_mono h6.len m hmu, ρ', h3, ?_, h4, h5, h6⟩)
    rw [Md.agree h6.ren m hmu, self_mode h0]
  induction code with
  | skip =>
    intro t h m ans r he hc hl
    simp only [evCodeR, Option.some.injEq] at he
    subst he
    exact leaf fun ρ a w RT RH => wpIn_skip ⟨rfl, rfl, ρ, rfl, RT, RH, Fr.refl _ _ _ _ hl (Nat.le_refl _)⟩
  | exit id =>
    intro t h m ans r he hc hl
    simp only [evCodeR, Option.some.injEq] at he
    subst he
    exact leaf fun ρ a w RT RH => wpIn_exit ⟨rfl, rfl, ρ, rfl, RT, RH, Fr.refl _ _ _ _ hl (Nat.le_refl _)⟩
  | ret =>
    intro t h m ans r he hc hl
    simp only [evCodeR, Option.some.injEq] at he
    subst he
    exact leaf fun ρ a w RT RH => wpIn_ret ⟨rfl, rfl, ρ, rfl, RT, RH, Fr.refl _ _ _ _ hl (Nat.le_refl _)⟩
  | seq x y ihx ihy =>
    intro t h m ans r he hc hl
    simp only [evCodeR] at he
    split at he
    · cases he
    · rename_i r1 hr1
      split at he
      · rename_i hn
        split at he
        · cases he
        · rename_i q hq
          simp only [Option.some.injEq] at he
          subst he
          have h1 := ihx _ _ _ _ _ hr1 (fun p hp => hc p (List.mem_append_left _ hp)) hl
          rw [hn] at h1
          intro ρ a w RT RH hmu c0 cs h0
          refine wpSIn_seq (wpSIn_mono (h1 ρ a w RT RH hmu c0 cs h0) fun z a1 cs1 w1 ⟨hz, d1, m1, ρ1, k1, k2, RT1, RH1, F1⟩ => ?_)
          subst hz
          subst k2
          have h2 := ihy _ _ _ _ _ hq (fun p hp => hc p (List.mem_append_right _ hp)) (Nat.le_trans hl F1.len)
          refine wpSIn_mono (h2 ρ1 a1 w1 RT1 RH1 m1 _ cs rfl) fun z a2 cs2 w2 ⟨hz, d2, m2, ρ2, k3, k4, RT2, RH2, F2⟩ => ⟨hz, d2.trans d1, m2, ρ2, k3.trans k1, k4, RT2, RH2, F1.trans (F2.fewer F1.len hl)⟩
      · rename_i hne
        simp only [Option.some.injEq] at he
        subst he
        have h1 := ihx _ _ _ _ _ hr1 hc hl
        intro ρ a w RT RH hmu c0 cs h0
        refine wpSIn_seq (wpSIn_mono (h1 ρ a w RT RH hmu c0 cs h0) fun z a1 cs1 w1 ⟨hz, rest⟩ => ?_)
        subst hz
        cases he : r1.e with
        | normal => exact absurd he hne
        | exit i => exact ⟨rfl, rest⟩
        | ret => exact ⟨rfl, rest⟩
  | scope x ih =>
    intro t h m ans r he hc hl
    simp only [evCodeR] at he
    intro ρ a w RT RH hmu c0 cs h0
    refine wpSIn_scope (wpSIn_mono (ih _ _ _ _ _ he hc hl ρ a w RT RH hmu c0 cs h0) fun z a1 cs1 w1 ⟨hz, rest⟩ => ?_)
    subst hz
    cases he : r.e with
    | normal => exact ⟨rfl, rest⟩
    | exit i => exact ⟨rfl, rest⟩
    | ret => exact ⟨rfl, rest⟩
  | block id x ih =>
    intro t h m ans r he hc hl
    simp only [evCodeR] at he
    split at he
    · cases he
    · rename_i r1 hr1
      simp only [Option.some.injEq] at he
      subst he
      intro ρ a w RT RH hmu c0 cs h0
      refine wpSIn_block (wpSIn_mono (ih _ _ _ _ _ hr1 hc hl ρ a w RT RH hmu c0 cs h0) fun z a1 cs1 w1 ⟨hz, rest⟩ => ?_)
      subst hz
      cases he : r1.e with
      | normal => exact ⟨rfl, rest⟩
      | ret => exact ⟨rfl, rest⟩
      | exit i =>
        simp only [Ex.to]
        by_cases hi : i = id
        · rw [if_pos hi]
          exact ⟨by simp [hi, Ex.to], rest⟩
        · rw [if_neg hi]
          exact ⟨by simp [hi, Ex.to], rest⟩
  | cond x y z ihy ihz =>
    intro t h m ans r he hc hl
    simp only [evCodeR] at he
    split at he
    · rename_i hlit
      exact fun ρ a w RT RH hmu c0 cs h0 => wpSIn_cond (litOf_eval RH RT hlit) (ihy _ _ _ _ _ he hc hl ρ a w RT RH hmu c0 cs h0)
    · rename_i hlit
      exact fun ρ a w RT RH hmu c0 cs h0 => wpSIn_cond (litOf_eval RH RT hlit) (ihz _ _ _ _ _ he hc hl ρ a w RT RH hmu c0 cs h0)
    · split at he
      · rename_i b hbv
        split at he
        · rename_i ans' cons hq
          split at he
          · cases he
          · rename_i r1 hr1
            simp only [Option.some.injEq] at he
            subst he
            have hbq : b = true := askB_ok hq fun p hp => hc p (List.mem_append_left _ hp)
            subst hbq
            exact fun ρ a w RT RH hmu c0 cs h0 => wpSIn_cond (opnd_eval RH RT hbv) (ihy _ _ _ _ _ hr1 (fun p hp => hc p (List.mem_append_right _ hp)) hl ρ a w RT RH hmu c0 cs h0)
        · rename_i ans' cons hq
          split at he
          · cases he
          · rename_i r1 hr1
            simp only [Option.some.injEq] at he
            subst he
            have hbq : b = false := askB_ok hq fun p hp => hc p (List.mem_append_left _ hp)
            subst hbq
            exact fun ρ a w RT RH hmu c0 cs h0 => wpSIn_cond (opnd_eval RH RT hbv) (ihz _ _ _ _ _ hr1 (fun p hp => hc p (List.mem_append_right _ hp)) hl ρ a w RT RH hmu c0 cs h0)
        · cases he
      · cases he
  | region id ops draws =>
    intro t h m ans r he hc hl
    simp only [evCodeR] at he
    split at he
    · split at he
      · rename_i q hq
        simp only [Option.some.injEq] at he
        subst he
        exact leaf fun ρ a w RT RH => evDrawn_sound hm hcf hfn hL hl hq hc RH RT fun ρ' a' w' h0 h1 h2 h3 h4 => ⟨rfl, h1, ρ', h0, h2, h3, h4⟩
      · cases he
    · split at he
      · split at he
        · rename_i q hq
          simp only [Option.some.injEq] at he
          subst he
          intro ρ a w RT RH hmu c0 cs h0
          refine wpSIn_region ?_
          have := evOpsR_sound (ops := ops) (Q := fun x a' cs' w' => x = Ex.normal.to ∧ a'.defers = a.defers ∧ q.2.1.under h.length = true ∧ ∃ ρ', ρ'.unk = ρ.unk ∧ cs' = { c0 with mode := q.2.1.conc ρ' } :: cs ∧ RelT ρ' h.length q.1 a' ∧ RelH c ρ' h w' ∧ Fr lim h.length ρ h w ρ' h w') RH (cs := cs) ops.toList 0 (fun j => by simp) t m ans q a c0 hq hc RT hmu h0 fun a' hd RT' hm' => ⟨rfl, hd, hm', ρ, rfl, rfl, RT', RH, Fr.refl _ _ _ _ hl (Nat.le_refl _)⟩
          rw [List.range_eq_range', ← Array.length_toList]
          exact this
        · cases he
      · split at he
        · rename_i q hq
          simp only [Option.some.injEq] at he
          subst he
          exact leaf fun ρ a w RT RH => wpIn_region_list (evOps_sound hcf hfn hL _ _ _ _ _ ρ a w hq hc hl RH RT fun ρ' a' w' h0 h1 h2 h3 h4 => ⟨rfl, h1, ρ', h0, h2, h3, h4⟩)
        · cases he
  | label l => intro t h m ans r he; simp [evCodeR] at he
  | loop x => intro t h m ans r he; simp [evCodeR] at he
  | rangeFunc g ps x y => intro t h m ans r he; simp [evCodeR] at he
  | goto l => intro t h m ans r he; simp [evCodeR] at he
  | refuse s => intro t h m ans r he; simp [evCodeR] at he
theorem evDfr_sound (hm : c.P.follows .mixedOrders = true) {cf : CF} (hcf : CallOk c cf) (hfn : ∀ f, c.fns f = true → Callable c.P f) (hL : c.L ≤ lim) {d : Dfr} {h : Heap} {m : Md} {ans : List Ans} {q : Heap × Md × List Ans × List Prop} (he : evDfr c cf lim d h m ans = some q) (hc : ∀ p ∈ q.2.2.2, p) (hl : lim ≤ h.length)
    {ρ : Ren} {w : World} (RH : RelH c ρ h w) (hu : d.under h.length = true) (hmu : m.under h.length = true) :
    CallsDIn Fence.wide 0 c.P d.f ((concs ρ d.xs).toArray ++ (concs ρ d.cap).toArray) (m.conc ρ) w fun e u' w' => (∃ v, e = .returned v) ∧ ∃ ρ', ρ'.unk = ρ.unk ∧ u' = q.2.1.conc ρ' ∧ q.2.1.under q.1.length = true ∧ RelH c ρ' q.1 w' ∧ Fr lim h.length ρ h w ρ' q.1 w' := by
  unfold evDfr at he
  split at he
  · cases he
  · rename_i fn hf
    split at he
    · cases he
    · rename_i code hb
      split at he
      · cases he
      · rename_i r hr
        have fin : ∀ {vs : List V}, (∀ i, r.e ≠ .exit i) → resultsV c r.t r.h fn.results.toList = some vs → q = (r.h, r.m, r.ans, r.cons) → CallsDIn Fence.wide 0 c.P d.f ((concs ρ d.xs).toArray ++ (concs ρ d.cap).toArray) (m.conc ρ) w fun e u' w' => (∃ v, e = .returned v) ∧ ∃ ρ', ρ'.unk = ρ.unk ∧ u' = q.2.1.conc ρ' ∧ q.2.1.under q.1.length = true ∧ RelH c ρ' q.1 w' ∧ Fr lim h.length ρ h w ρ' q.1 w' := by
          intro vs hne hvs hq
          subst hq
          have hrun := evCodeR_sound hm hcf hfn hL code _ _ _ _ _ hr hc hl
          simp only [Dfr.under, Bool.and_eq_true] at hu
          have hux := unders_append hu.1 hu.2
          have htm : ((concs ρ d.xs).toArray ++ (concs ρ d.cap).toArray) ++ Array.replicate (fn.ntmps - ((concs ρ d.xs).toArray ++ (concs ρ d.cap).toArray).size) undef = (concs ρ ((d.xs ++ d.cap) ++ List.replicate (fn.ntmps - (d.xs ++ d.cap).length) (.raw undef))).toArray := by
            apply Array.toList_inj.1
            simp [concs_map, V.conc]
          refine callsDIn_of_wpSIn hf hb trivial fun c0 cs h0 => ?_
          rw [htm]
          refine wpSIn_mono (hrun ρ _ w ⟨rfl, fun x hx => ?_⟩ RH hmu c0 cs h0) fun z a1 cs1 w1 ⟨hz, d1, m1, ρ1, k1, k2, RT1, RH1, F1⟩ => ?_
          · rcases List.mem_append.1 hx with h1 | h1
            · exact V.slot_of_under _ ((unders_iff _ _).1 hux x h1)
            · rw [List.eq_of_mem_replicate h1]; rfl
          · subst hz
            obtain ⟨h1, h2⟩ := results_ok RH1 RT1 hvs
            have done : a1.defers = [] ∧ ∃ u', cs1 = { c0 with mode := u' } :: cs ∧ ∃ v, (results fn a1.tmps).run c.P w1 = .ok v w1 ∧ (∃ v', Ending.returned v = .returned v') ∧ ∃ ρ', ρ'.unk = ρ.unk ∧ u' = r.m.conc ρ' ∧ r.m.under r.h.length = true ∧ RelH c ρ' r.h w1 ∧ Fr lim h.length ρ h w ρ' r.h w1 :=
              ⟨d1, _, k2, _, h1, ⟨_, rfl⟩, ρ1, k1, rfl, m1, RH1, F1⟩
            cases he : r.e with
            | exit i => exact absurd he (hne i)
            | normal => exact done
            | ret => exact done
        split at he
        · cases he
        · rename_i hne
          split at he
          · cases he
          · rename_i vs hvs
            simp only [Option.some.injEq] at he
            exact fin hne hvs he.symm
theorem settle_ok (ρ : Ren) (m : Md) : settle (m.conc ρ) = (settleM m).conc ρ := by
  cases m with
  | ret => rfl
  | pan v r => cases r <;> rfl
theorem settle_under {n : Nat} {m : Md} (h : m.under n = true) : (settleM m).under n = true := by
  cases m with
  | ret => rfl
  | pan v r =>
    cases r with
    | true => rfl
    | false => exact h
theorem md_run (ρ : Ren) (m : Md) : m.conc ρ ≠ .run := by cases m <;> simp [Md.conc]
theorem leaves_mix (hm : c.P.follows .mixedOrders = true) {cf : CF} (hcf : CallOk c cf) (hfn : ∀ f, c.fns f = true → Callable c.P f) (hL : c.L ≤ lim) {fn : Func} {tmps : Array Value} {R : Ending → World → Prop} {n : Nat} {ρ0 : Ren} {h0 : Heap} {w0 : World} (hln : lim ≤ n) :
    ∀ (L : List DE) (h : Heap) (m : Md) (ans : List Ans) (q : Heap × Md × List Ans × List Prop) (ρ : Ren) (w : World), evDfrs c cf lim (callsOf L) h m ans = some q → (∀ p ∈ q.2.2.2, p) → (∀ d ∈ callsOf L, c.fns d.f = true) → lim ≤ h.length → m.under h.length = true → Mix h.length w0 w L → RelH c ρ h w → Fr lim n ρ0 h0 w0 ρ h w →
      (∀ ρ' w', ρ'.unk = ρ.unk → (∀ i, i < h.length → ρ'.blk i = ρ.blk i) → h.length ≤ q.1.length → RelH c ρ' q.1 w' → Fr lim n ρ0 h0 w0 ρ' q.1 w' → LeavesIn Fence.wide 0 c.P fn tmps R [] (q.2.1.conc ρ') w') → LeavesInM Fence.wide 0 c.P fn tmps R (L.map (DE.conc ρ)) (m.conc ρ) w
  | [], h, m, ans, q, ρ, w, he, hc, hf, hl, hmu, M, RH, F, hR => by
    simp only [callsOf, evDfrs, Option.some.injEq] at he
    subst he
    exact hR ρ w rfl (fun _ _ => rfl) (Nat.le_refl _) RH F
  | .mark D :: L, h, m, ans, q, ρ, w, he, hc, hf, hl, hmu, M, RH, F, hR => by
    obtain ⟨h1, h2⟩ := M.marks D List.mem_cons_self
    have hnd := M.nodup
    simp only [marksOf, List.nodup_cons] at hnd
    refine ⟨md_run ρ m, .inl ⟨D, w.putObj D (.deferred none), rfl, run_takeDeferred h2, ?_⟩⟩
    have hne : ∀ i, lv ρ h i → (ρ.blk i).n ≠ D := fun i ⟨B, k1, k2⟩ e => (RH.cell i B k1).notDfr k2 (by rw [e]; exact h2)
    refine leaves_mix hm hcf hfn hL hln L h m ans q ρ _ he hc hf hl hmu ⟨hnd.2, fun E hE => ?_, M.sco⟩ ?_ ?_ hR
    · obtain ⟨k1, k2⟩ := M.marks E (List.mem_cons_of_mem _ hE)
      exact ⟨k1, by rw [World.putObj_heap_other (fun e => hnd.1 (by rw [← e]; exact hE)), k2]⟩
    · exact ⟨fun i B hi => (RH.cell i B hi).move (RH.sco i B hi) (fun _ _ => rfl) fun hn => World.putObj_heap_other (hne i ⟨B, hi, hn⟩), RH.inj, RH.sco, RH.glob, RH.big, RH.base⟩
    · exact ⟨F.os, F.tape, F.output, by simpa using F.size, fun k hk hn => by rw [World.putObj_heap_other (by omega)]; exact F.blk k hk hn, F.ren, F.len, F.fresh, F.dead⟩
  | .call d :: L, h, m, ans, q, ρ, w, he, hc, hf, hl, hmu, M, RH, F, hR => by
    simp only [callsOf, evDfrs] at he
    split at he
    · cases he
    · rename_i r1 hr1
      split at he
      · cases he
      · rename_i q1 hq
        simp only [Option.some.injEq] at he
        subst he
        have hdu := M.sco d List.mem_cons_self
        have hcall := evDfr_sound hm hcf hfn hL hr1 (fun p hp => hc p (List.mem_append_left _ hp)) hl RH hdu hmu
        obtain ⟨f0, f1, f2, f3⟩ := hfn d.f (hf d List.mem_cons_self)
        have hinv : (invoke (.fn (.func d.f) (concs ρ d.cap).toArray) (concs ρ d.xs).toArray).run c.P w = .ok (.enter d.f ((concs ρ d.xs).toArray ++ (concs ρ d.cap).toArray)) w := by
          have h2' : ¬ f0.name = "runtime.NumGoroutine" := by simpa using f2
          have h3' : ¬ f0.body = none := by intro hn; rw [hn] at f3; cases f3
          simp [invoke, callFunc, go_sem, f1, h2', h3']
        refine ⟨md_run ρ m, .inr ⟨fun hn => (by cases hn), .func d.f, (concs ρ d.cap).toArray, d.f, _, rfl, hinv, fun _ _ => trivial, ?_⟩⟩
        refine CallsDIn.mono hcall fun e u' w1 ⟨⟨v, he1⟩, ρ1, k1, k2, k3, RH1, F1⟩ => ?_
        subst he1
        subst k2
        show LeavesInM Fence.wide 0 c.P fn tmps R (L.map (DE.conc ρ)) (settle (r1.2.1.conc ρ1)) w1
        rw [settle_ok, ← DE.agree F1.ren L fun x hx => M.sco x (List.mem_cons_of_mem _ hx)]
        refine leaves_mix hm hcf hfn hL hln L _ _ _ q1 ρ1 w1 hq (fun p hp => hc p (List.mem_append_right _ hp)) (fun x hx => hf x (List.mem_cons_of_mem _ hx)) (Nat.le_trans hl F1.len) (settle_under k3) ⟨M.nodup, fun D hD => ⟨(M.marks D hD).1, F1.keep RH (M.marks D hD).2⟩, fun x hx => Dfr.under_mono F1.len x (M.sco x (List.mem_cons_of_mem _ hx))⟩ RH1 (F.trans (F1.fewer F.len hln)) fun ρ' w' j1 j2 j3 j4 j5 => ?_
        exact hR ρ' w' (j1.trans k1) (fun i hi => (j2 i (Nat.lt_of_lt_of_le hi F1.len)).trans (F1.ren i hi)) (Nat.le_trans F1.len j3) j4 j5
theorem dfrV_fns {t : List V} {o : Oper} {d : Dfr} (hd : dfrV c t o = some d) : c.fns d.f = true := by
  unfold dfrV at hd
  split at hd
  · split at hd
    · split at hd
      · rename_i hf
        simp only [Option.some.injEq] at hd
        subst hd
        exact hf
      · cases hd
    · cases hd
  · cases hd
theorem evOpsT_fns {cf : CF} {ops : Array Oper} : ∀ (l : List Oper) (t : List V) (h : Heap) (ans : List Ans) (q : ROut × List Dfr), evOpsT c cf lim ops l t h ans = some q → ∀ d ∈ q.2, c.fns d.f = true
  | [], t, h, ans, q, he => by
    simp only [evOpsT, Option.some.injEq] at he
    subst he
    exact fun d hd => by cases hd
  | o :: rest, t, h, ans, q, he => by
    simp only [evOpsT] at he
    split at he
    · split at he
      · rename_i d hd hg
        split at he
        · cases he
        · rename_i q1 hq
          simp only [Option.some.injEq] at he
          subst he
          intro x hx
          rcases List.mem_append.1 hx with h1 | h1
          · exact evOpsT_fns rest _ _ _ q1 hq x h1
          · rw [List.mem_singleton] at h1
            subst h1
            exact dfrV_fns hd
      · cases he
    · split at he
      · cases he
      · split at he
        · split at he
          · cases he
          · split at he
            · cases he
            · rename_i q1 hq
              simp only [Option.some.injEq] at he
              subst he
              exact evOpsT_fns rest _ _ _ q1 hq
        · split at he
          · cases he
          · rename_i q1 hq
            simp only [Option.some.injEq] at he
            subst he
            exact evOpsT_fns rest _ _ _ q1 hq
theorem evTop_fns {cf : CF} {fi : Nat} : ∀ (code : Code) (k : Nat) (t : List V) (h : Heap) (ans : List Ans) (r : TOut), evTop c cf lim fi code k t h ans = some r → ∀ d ∈ r.ds, c.fns d.f = true := by
  intro code
  have leaf : ∀ (code : Code) (k : Nat) (t : List V) (h : Heap) (ans : List Ans) (r : TOut), (match evCode c cf lim none fi code k t h ans with
      | some r => some (⟨r, []⟩ : TOut)
      | none => none) = some r → ∀ d ∈ r.ds, c.fns d.f = true := by
    intro code k t h ans r he
    split at he
    · simp only [Option.some.injEq] at he
      subst he
      exact fun d hd => by cases hd
    · cases he
  induction code with
  | seq x y ihx ihy =>
    intro k t h ans r he
    simp only [evTop] at he
    split at he
    · cases he
    · rename_i r1 hr1
      split at he
      · split at he
        · cases he
        · rename_i q hq
          simp only [Option.some.injEq] at he
          subst he
          intro d hd
          rcases List.mem_append.1 hd with h1 | h1
          · exact ihy _ _ _ _ _ hq d h1
          · exact ihx _ _ _ _ _ hr1 d h1
      · simp only [Option.some.injEq] at he
        subst he
        exact ihx _ _ _ _ _ hr1
  | scope x ih => intro k t h ans r he; simp only [evTop] at he; exact ih _ _ _ _ _ he
  | region id ops draws =>
    intro k t h ans r he
    simp only [evTop] at he
    split at he
    · simp only [Option.some.injEq] at he
      subst he
      exact fun d hd => by cases hd
    · split at he
      · cases he
      · split at he
        · cases he
        · rename_i q hq
          simp only [Option.some.injEq] at he
          subst he
          exact evOpsT_fns _ _ _ _ _ hq
  | skip => intro k t h ans r he; exact leaf (.skip) k t h ans r he
  | label l => intro k t h ans r he; exact leaf (.label l) k t h ans r he
  | exit id => intro k t h ans r he; exact leaf (.exit id) k t h ans r he
  | ret => intro k t h ans r he; exact leaf (.ret) k t h ans r he
  | cond x y z => intro k t h ans r he; exact leaf (.cond x y z) k t h ans r he
  | block id x => intro k t h ans r he; exact leaf (.block id x) k t h ans r he
  | loop x => intro k t h ans r he; exact leaf (.loop x) k t h ans r he
  | rangeFunc g ps x y => intro k t h ans r he; exact leaf (.rangeFunc g ps x y) k t h ans r he
  | goto l => intro k t h ans r he; exact leaf (.goto l) k t h ans r he
  | refuse s => intro k t h ans r he; exact leaf (.refuse s) k t h ans r he
theorem evDeferring_sound (hm : c.P.follows .mixedOrders = true) {cf : CF} (hcf : CallOk c cf) (hfn : ∀ f, c.fns f = true → Callable c.P f) (hL : c.L ≤ lim) {f : FuncId} {fn : Func} {code : Code} {args : List V} {h : Heap} {ans : List Ans} {out : Out} (hf : c.P.funcs[f]? = some fn) (hb : fn.body = some code)
    (he : evDeferring c cf lim f fn code args h ans = some out) (hc : ∀ p ∈ out.cons, p) (hl : lim ≤ h.length) {ρ : Ren} {w : World} (RH : RelH c ρ h w) (hu : unders h.length args = true) : Calls c.P f (concs ρ args).toArray w (Post c lim ρ h w out.v out.h) := by
  unfold evDeferring at he
  split at he
  · cases he
  · rename_i r hr
    have fin : ∀ {q : Heap × Md × List Ans × List Prop} {vs : List V}, (∀ i, r.o.e ≠ .exit i) → evDfrs c cf lim r.ds r.o.h .ret r.o.ans = some q → q.2.1 = .ret → resultsV c r.o.t q.1 fn.results.toList = some vs → out = ⟨oneOf vs, q.1, q.2.2.1, r.o.cons ++ q.2.2.2⟩ → Calls c.P f (concs ρ args).toArray w (Post c lim ρ h w out.v out.h) := by
      intro q vs hne hq hqm hvs ho
      subst ho
      have hrun := evTop_sound hm hcf hfn hL code 0 _ _ _ _ hr (fun p hp => hc p (List.mem_append_left _ hp)) hl (fun j x hx => by
        unfold rangeAt
        rw [hf]
        simp only [hb]
        rw [Nat.zero_add, List.getD_eq_getElem?_getD, hx]
        rfl)
      have hfns := evTop_fns code 0 _ _ _ _ hr
      have htm : (concs ρ args).toArray ++ Array.replicate (fn.ntmps - (concs ρ args).toArray.size) undef = (concs ρ (args ++ List.replicate (fn.ntmps - args.length) (.raw undef))).toArray := by
        apply Array.toList_inj.1
        simp [concs_map, V.conc]
      refine (callsIn_wide (n := 0)).1 (callsIn_of_wp_marks hf hb trivial ?_)
      rw [htm]
      refine wpIn_mono (hrun ρ _ w ⟨rfl, fun x hx => ?_⟩ RH) fun z a1 w1 ⟨hz, ρ1, L, d1, e1, M1, RT1, RH1, F1⟩ => ?_
      · rcases List.mem_append.1 hx with h1 | h1
        · exact V.slot_of_under _ ((unders_iff _ _).1 hu x h1)
        · rw [List.eq_of_mem_replicate h1]; rfl
      · subst hz
        simp only [List.append_nil] at d1
        have out1 : LeavesInM Fence.wide 0 c.P fn a1.tmps (Post c lim ρ h w (oneOf vs) q.1) (L.map (DE.conc ρ1)) (Md.ret.conc ρ1) w1 := by
          refine leaves_mix hm hcf hfn hL hl L r.o.h .ret r.o.ans q ρ1 w1 (by rw [e1]; exact hq) (fun p hp => hc p (List.mem_append_right _ hp)) (fun d hd => hfns d (by rw [← e1]; exact hd)) (Nat.le_trans hl F1.len) rfl M1 RH1 F1 fun ρ' w' j1 j2 j3 j4 j5 => ?_
          rw [hqm]
          have RT' : RelT ρ' q.1.length r.o.t a1 := by
            refine ⟨?_, fun x hx => V.slotOk_mono j3 x (RT1.sco x hx)⟩
            rw [RT1.tmps]
            congr 1
            rw [concs_map, concs_map]
            exact List.map_congr_left fun v hv => (V.slot_agree (n := r.o.h.length) j2 j1 v (RT1.sco v hv)).symm
          obtain ⟨h1, h2⟩ := results_ok j4 RT' hvs
          exact ⟨_, h1, ⟨ρ'.blk, ρ.unk⟩, rfl, by rw [V.conc_agree (ρ := ρ') (ρ' := ⟨ρ'.blk, ρ.unk⟩) (fun _ _ => rfl) _ h2], relH_unk j4 _, j5.unk _, h2⟩
        cases he : r.o.e with
        | exit i => exact absurd he (hne i)
        | normal => show LeavesInM _ _ _ _ _ _ a1.defers _ _; rw [d1]; exact out1
        | ret => show LeavesInM _ _ _ _ _ _ a1.defers _ _; rw [d1]; exact out1
    split at he
    · cases he
    · rename_i hne
      split at he
      · cases he
      · rename_i q hq
        split at he
        · cases he
        · rename_i hqm
          split at he
          · cases he
          · rename_i vs hvs
            simp only [Option.some.injEq] at he
            exact fin hne hq hqm hvs he.symm
end
end Go.Proofs.Ytcibaankajfhlaa.E2
end
section
namespace Go.Proofs.Ytcibaankajfhlaa.E2
open Go Go.RowKit
theorem rangesIn_seg : ∀ (x : Code) (i : Nat) (ps : Array Tmp) (a y : Code), (rangesIn x)[i]? = some (ps, a, y) → ∀ (j : Nat) z, (rangesIn y)[j]? = some z → (rangesIn x)[i + 1 + j]? = some z
  | .rangeFunc g qs u v, 0, ps, a, y, h, j, z, hz => by
    simp only [rangesIn, List.getElem?_cons_zero, Option.some.injEq, Prod.mk.injEq] at h
    obtain ⟨_, _, rfl⟩ := h
    simp only [rangesIn]
    rw [show 0 + 1 + j = j + 1 by omega, List.getElem?_cons_succ]
    exact hz
  | .rangeFunc g qs u v, i + 1, ps, a, y, h, j, z, hz => by
    simp only [rangesIn, List.getElem?_cons_succ] at h
    have := rangesIn_seg v i ps a y h j z hz
    simp only [rangesIn]
    rw [show i + 1 + 1 + j = (i + 1 + j) + 1 by omega, List.getElem?_cons_succ]
    exact this
  | .loop x, i, ps, a, y, h, j, z, hz => rangesIn_seg x i ps a y h j z hz
  | .block _ x, i, ps, a, y, h, j, z, hz => rangesIn_seg x i ps a y h j z hz
  | .scope x, i, ps, a, y, h, j, z, hz => rangesIn_seg x i ps a y h j z hz
  | .seq u v, i, ps, a, y, h, j, z, hz => by
    simp only [rangesIn] at h ⊢
    rcases Nat.lt_or_ge i (rangesIn u).length with hlt | hge
    · rw [List.getElem?_append_left hlt] at h
      have := rangesIn_seg u i ps a y h j z hz
      rw [List.getElem?_append_left (List.getElem?_eq_some_iff.1 this).1]
      exact this
    · rw [List.getElem?_append_right hge] at h
      have := rangesIn_seg v _ ps a y h j z hz
      rw [List.getElem?_append_right (by omega), show i + 1 + j - (rangesIn u).length = i - (rangesIn u).length + 1 + j by omega]
      exact this
  | .cond _ u v, i, ps, a, y, h, j, z, hz => by
    simp only [rangesIn] at h ⊢
    rcases Nat.lt_or_ge i (rangesIn u).length with hlt | hge
    · rw [List.getElem?_append_left hlt] at h
      have := rangesIn_seg u i ps a y h j z hz
      rw [List.getElem?_append_left (List.getElem?_eq_some_iff.1 this).1]
      exact this
    · rw [List.getElem?_append_right hge] at h
      have := rangesIn_seg v _ ps a y h j z hz
      rw [List.getElem?_append_right (by omega), show i + 1 + j - (rangesIn u).length = i - (rangesIn u).length + 1 + j by omega]
      exact this
  | .skip, i, ps, a, y, h, j, z, hz => by simp [rangesIn] at h
  | .label _, i, ps, a, y, h, j, z, hz => by simp [rangesIn] at h
  | .exit _, i, ps, a, y, h, j, z, hz => by simp [rangesIn] at h
  | .ret, i, ps, a, y, h, j, z, hz => by simp [rangesIn] at h
  | .goto _, i, ps, a, y, h, j, z, hz => by simp [rangesIn] at h
  | .refuse _, i, ps, a, y, h, j, z, hz => by simp [rangesIn] at h
  | .region _ _ _, i, ps, a, y, h, j, z, hz => by simp [rangesIn] at h
theorem rangeAt_seg {P : Program} {f i : Nat} : ∀ (j : Nat) z, (rangesIn (rangeAt P f i).2.2)[j]? = some z → rangeAt P f (i + 1 + j) = z := by
  intro j z hz
  unfold rangeAt at hz ⊢
  split at hz
  · rename_i fn hf
    split at hz
    · rename_i b hb
      cases hx : (rangesIn b)[i]? with
      | none =>
        rw [List.getD_eq_getElem?_getD, hx] at hz
        simp [rangesIn] at hz
      | some x =>
        rw [List.getD_eq_getElem?_getD, hx] at hz
        have := rangesIn_seg b i x.1 x.2.1 x.2.2 hx j z hz
        rw [List.getD_eq_getElem?_getD, this]
        rfl
    · simp [rangesIn] at hz
  · simp [rangesIn] at hz
section
variable {c : Cfg}
theorem evYld_sound (hm : c.P.follows .mixedOrders = true) (hfn : ∀ f, c.fns f = true → Callable c.P f) {cf : CF} (hcf : CallOk c cf) {b : Nat} {args : List V} {h : Heap} {lim : Nat} {ans : List Ans} {out : Out} (he : evYld c cf b args h lim ans = some out) (hc : ∀ p ∈ out.cons, p) (hL : c.L ≤ lim) (hl : lim ≤ h.length) {ρ : Ren} {w : World} (RH : RelH c ρ h w) (hu : unders h.length args = true) :
    ∃ r, h[b]? = some (some (.rcd r)) ∧ args.length = (rangeAt c.P r.f r.i).1.size ∧ ∀ fn u D, w.heap[(ρ.blk b).n]? = some (.loop (r.loop c.P ρ fn u D)) →
      RoundIn Fence.wide 0 c.P (ρ.blk b).n fn (((rangeAt c.P r.f r.i).1.zip (concs ρ args).toArray).foldl (fun tmps (t, a) => tmps.setIfInBounds t a) (concs ⟨ρ.blk, u⟩ r.t).toArray) (rangeAt c.P r.f r.i).2.1 (rangeAt c.P r.f r.i).2.2 w (Post c lim ρ h w out.v out.h) := by
  unfold evYld at he
  split at he
  · rename_i r hb
    have hbl := lt_len hb
    split at he
    · rename_i hst
      split at he
      · rename_i hh
        obtain ⟨h1, h2, h3⟩ := hh
        split at he
        · rename_i o1 ho1
          split at he
          · rename_i r1 he1 hr1
            split at he
            · rename_i hst1
              split at he
              · rename_i o2 ho2
                split at he
                · rename_i r2 hr2
                  have fin : ∃ s bv, out = ⟨.raw (.bool bv), o2.h.set b (some (.rcd { r2 with st := s })), o2.ans, o1.cons ++ o2.cons⟩ ∧ ((o2.e = .normal ∧ s = .ready ∧ bv = true) ∨ (o2.e ≠ .normal ∧ s = .done o2.e ∧ bv = false)) := by
                    split at he
                    · rename_i hn
                      simp only [Option.some.injEq] at he
                      exact ⟨_, _, he.symm, .inl ⟨hn, rfl, rfl⟩⟩
                    · rename_i hn
                      simp only [Option.some.injEq] at he
                      exact ⟨_, _, he.symm, .inr ⟨fun e => hn e, rfl, rfl⟩⟩
                  obtain ⟨s, bv, rfl, hcase⟩ := fin
                  refine ⟨r, hb, h2, fun fn u D hw => ?_⟩
                  have hsco := RH.sco b _ hb
                  simp only [Blk.under] at hsco
                  generalize hps : (rangeAt c.P r.f r.i).1 = ps at *
                  -- the round's slots
                  have hT0 : (ps.zip (concs ρ args).toArray).foldl (fun tmps (x : Tmp × Value) => tmps.setIfInBounds x.1 x.2) (concs ⟨ρ.blk, u⟩ r.t).toArray = (concs ⟨ρ.blk, u⟩ ((ps.toList.zip args).foldl (fun t p => t.set p.1 p.2) r.t)).toArray ∧ ((ps.toList.zip args).foldl (fun t p => t.set p.1 p.2) r.t).all (·.slotOk h.length) = true := by
                    rw [← Array.foldl_toList, Array.toList_zip]
                    have gen : ∀ (l : List Tmp) (zl : List V) (t : List V), unders h.length zl = true → t.all (·.slotOk h.length) = true →
                        (l.zip (concs ρ zl)).foldl (fun tmps (x : Tmp × Value) => tmps.setIfInBounds x.1 x.2) (concs ⟨ρ.blk, u⟩ t).toArray = (concs ⟨ρ.blk, u⟩ ((l.zip zl).foldl (fun t p => t.set p.1 p.2) t)).toArray ∧ ((l.zip zl).foldl (fun t p => t.set p.1 p.2) t).all (·.slotOk h.length) = true := by
                      intro l
                      induction l with
                      | nil => intro zl t _ ht; exact ⟨rfl, ht⟩
                      | cons x l ih =>
                        intro zl t ha ht
                        cases zl with
                        | nil => exact ⟨by simp [concs], by simpa using ht⟩
                        | cons v zl =>
                          simp only [unders, Bool.and_eq_true] at ha
                          have ht' : (t.set x v).all (·.slotOk h.length) = true := List.all_eq_true.2 fun y hy => by
                            rcases List.mem_or_eq_of_mem_set hy with h5 | rfl
                            · exact List.all_eq_true.1 ht y h5
                            · exact V.slot_of_under _ ha.1
                          obtain ⟨i1, i2⟩ := ih zl (t.set x v) ha.2 ht'
                          refine ⟨?_, i2⟩
                          simp only [concs, List.zip_cons_cons, List.foldl_cons]
                          rw [← i1]
                          congr 1
                          rw [concs_set]
                          simp only [List.setIfInBounds_toArray]
                          rw [V.conc_agree (ρ := ρ) (ρ' := ⟨ρ.blk, u⟩) (fun _ _ => rfl) v ha.1]
                    exact gen ps.toList args r.t hu hsco
                  have RHu : RelH c ⟨ρ.blk, u⟩ h w := relH_unk RH u
                  refine roundIn_of_wpIn (F := Fence.wide) trivial ?_
                  have run1 := evCode_sound hm hcf hfn hL (rnd := some b) _ _ _ _ _ _ ho1 (fun p hp => hc p (List.mem_append_left _ hp)) hl (fun b' e => by cases e; exact hbl) (fun j x hx => by
                    rw [List.isEmpty_iff] at h3
                    rw [h3] at hx
                    simp at hx)
                  have hF : Fence.wide.inRound (ρ.blk b).n = FW (rndOf ⟨ρ.blk, u⟩ (some b)) := rfl
                  rw [hF]
                  have RT0 : RelT ⟨ρ.blk, u⟩ h.length ((ps.toList.zip args).foldl (fun t p => t.set p.1 p.2) r.t) { tmps := (ps.zip (concs ρ args).toArray).foldl (fun tmps (x : Tmp × Value) => tmps.setIfInBounds x.1 x.2) (concs ⟨ρ.blk, u⟩ r.t).toArray, defers := [] } :=
                    ⟨hT0.1, fun x hx => List.all_eq_true.1 hT0.2 x hx⟩
                  refine run1.go RT0 RHu fun ρ1 a1 w1 ms1 d1 M1 RT1 RH1 F1 => ?_
                  rw [he1]
                  have hb1 : ρ1.blk b = ρ.blk b := F1.ren b hbl
                  obtain ⟨hn1, fn1, u1, D1, g1⟩ := RH1.cell b _ hr1
                  have hbeg := run_beginRound (P := c.P) g1 (by simp only [Rec.loop, hst1]; rfl)
                  obtain ⟨p1, p2, p3⟩ := putObj_rel (lim := lim) RH1 (X := some (.rcd { r1 with st := .busy })) (o := .loop { r1.loop c.P ρ1 fn1 u1 D1 with state := .busy }) hr1 (by omega) h1 (fun B' e => by
                    cases e
                    have hsc1 : (Blk.rcd r1).under o1.h.length = true := RH1.sco b _ hr1
                    refine ⟨hsc1, fun hw' => ⟨hn1, fn1, u1, D1, hw'.trans ?_⟩⟩
                    simp only [Rec.loop, hst1, RSt.state, RSt.pend])
                  rw [hb1] at hbeg p1 p2 p3
                  refine ⟨_, hbeg, ?_⟩
                  generalize (w1.putObj (ρ.blk b).n (.loop { r1.loop c.P ρ1 fn1 u1 D1 with state := .busy })) = w2 at p1 p2 p3
                  have F12 := F1.trans (p2.fewer F1.len hl)
                  have run2 := evCode_sound hm hcf hfn hL (rnd := some b) _ _ _ _ _ _ ho2 (fun p hp => hc p (List.mem_append_right _ hp)) (by rw [List.length_set]; exact Nat.le_trans hl F1.len) (fun b' e => by cases e; rw [List.length_set]; exact Nat.lt_of_lt_of_le hbl F1.len) (fun j x hx => rangeAt_seg j x hx)
                  have RT1' : RelT ρ1 (o1.h.set b (some (.rcd { r1 with st := .busy }))).length o1.t a1 := by rw [List.length_set]; exact RT1
                  have hF' : FW (rndOf ⟨ρ.blk, u⟩ (some b)) = FW (rndOf ρ1 (some b)) := by simp only [rndOf, Option.map_some, hb1]
                  rw [hF']
                  refine run2.go RT1' p1 fun ρ2 a2 w3 ms2 d2 M2 RT2 RH2 F2 => ?_
                  have hb2 : ρ2.blk b = ρ.blk b := by rw [F2.ren b (by rw [List.length_set]; exact Nat.lt_of_lt_of_le hbl F1.len), hb1]
                  obtain ⟨hn2, fn2, u2, D2, g2⟩ := RH2.cell b _ hr2
                  rw [hb2] at g2
                  have close : ∀ (j : Option Code) , (s.state = (if j.isNone then .ready else .done)) → s.pend = j → bv = j.isNone → ∃ v w', (Instr.endRound (ρ.blk b).n j).run c.P w3 = .ok v w' ∧ Post c lim ρ h w (.raw (.bool bv)) (o2.h.set b (some (.rcd { r2 with st := s }))) (.returned v) w' := fun j j1 j2 j3 => by
                    refine ⟨_, _, run_endRound j g2, ?_⟩
                    obtain ⟨q1, q2, q3⟩ := putObj_rel (lim := lim) RH2 (X := some (.rcd { r2 with st := s })) (o := .loop { r2.loop c.P ρ2 fn2 u2 D2 with state := if j.isNone then .ready else .done, pending := j }) hr2 (by omega) h1 (fun B' e => by
                      cases e
                      have hsc2 : (Blk.rcd r2).under o2.h.length = true := RH2.sco b _ hr2
                      refine ⟨hsc2, fun hw' => ⟨hn2, fn2, u2, D2, hw'.trans ?_⟩⟩
                      simp only [Rec.loop, j1, j2])
                    rw [hb2] at q1 q2
                    have F23 := (F2.fewer (m := h.length) (by rw [List.length_set]; exact F1.len) hl).trans (q2.fewer (Nat.le_trans F1.len (by have := F2.len; rw [List.length_set] at this; exact this)) hl)
                    have Fall := F12.trans F23
                    exact ⟨⟨ρ2.blk, ρ.unk⟩, rfl, by simp only [V.conc, j3], relH_unk q1 _, (Fall.unk ρ.unk).unk0, rfl⟩
                  rcases hcase with ⟨e1, rfl, rfl⟩ | ⟨e1, rfl, rfl⟩
                  · rw [e1]
                    exact close none rfl rfl rfl
                  · cases hoe : o2.e with
                    | normal => exact absurd hoe e1
                    | exit id =>
                      rw [hoe] at close
                      exact close (some (.exit id)) rfl rfl rfl
                    | ret =>
                      rw [hoe] at close
                      exact close (some .ret) rfl rfl rfl
                · cases he
              · cases he
            · cases he
          · cases he
        · cases he
      · cases he
    · cases he
  · cases he
theorem leaves_marks {fn : Func} {tmps : Array Value} {R : Ending → World → Prop} {lim : Nat} {ρ0 ρ : Ren} {h0 h : Heap} {w0 : World} {n : Nat} : ∀ (Ds : List Nat) (w : World), Ds.Nodup → (∀ D ∈ Ds, w0.heap.size ≤ D ∧ w.heap[D]? = some (.deferred (some []))) → RelH c ρ h w → Fr lim n ρ0 h0 w0 ρ h w →
    (∀ w', RelH c ρ h w' → Fr lim n ρ0 h0 w0 ρ h w' → ∃ v, (results fn tmps).run c.P w' = .ok v w' ∧ R (.returned v) w') → LeavesInM Fence.wide 0 c.P fn tmps R (Ds.map markOf) .returning w
  | [], w, _, _, RH, F, hR => hR w RH F
  | D :: Ds, w, hnd, hD, RH, F, hR => by
    rw [List.nodup_cons] at hnd
    obtain ⟨h1, h2⟩ := hD D List.mem_cons_self
    refine ⟨by simp, .inl ⟨D, w.putObj D (.deferred none), rfl, run_takeDeferred h2, ?_⟩⟩
    have hne : ∀ i, lv ρ h i → (ρ.blk i).n ≠ D := fun i ⟨B, k1, k2⟩ e => (RH.cell i B k1).notDfr k2 (by rw [e]; exact h2)
    refine leaves_marks Ds _ hnd.2 (fun E hE => ?_) ?_ ?_ hR
    · obtain ⟨k1, k2⟩ := hD E (List.mem_cons_of_mem _ hE)
      exact ⟨k1, by rw [World.putObj_heap_other (fun e => hnd.1 (by rw [← e]; exact hE)), k2]⟩
    · exact ⟨fun i B hi => (RH.cell i B hi).move (RH.sco i B hi) (fun _ _ => rfl) fun hn => World.putObj_heap_other (hne i ⟨B, hi, hn⟩), RH.inj, RH.sco, RH.glob, RH.big, RH.base⟩
    · exact ⟨F.os, F.tape, F.output, by simpa using F.size, fun k hk hn => by rw [World.putObj_heap_other (by omega)]; exact F.blk k hk hn, F.ren, F.len, F.fresh, F.dead⟩
theorem cleanH_ok {n : Nat} : ∀ (k : Nat) (h : Heap), cleanH n k h = true → ∀ (i : Nat) (B : Blk), i < k → h[i]? = some (some B) → B.under n = true
  | 0, h, _, i, B, hi, _ => by omega
  | k + 1, [], _, i, B, hi, hB => by simp at hB
  | k + 1, X :: l, hc, i, B, hi, hB => by
    simp only [cleanH] at hc
    cases i with
    | zero =>
      simp only [List.getElem?_cons_zero, Option.some.injEq] at hB
      subst hB
      simp only at hc
      split at hc
      · rename_i hu; exact hu
      · cases hc
    | succ i =>
      rw [List.getElem?_cons_succ] at hB
      have hl : cleanH n k l = true := by
        split at hc
        · exact hc
        · split at hc
          · exact hc
          · cases hc
      exact cleanH_ok k l hl i B (by omega) hB
theorem post_gc {lim : Nat} {ρ : Ren} {h H : Heap} {w w' : World} {v : V} {e : Ending} (RH : RelH c ρ h w) (hL : c.L ≤ lim) (hl : lim ≤ h.length) (hp : Post c lim ρ h w v H e w') : Post c lim ρ h w v (gcH c h.length v H) e w' := by
  unfold gcH
  split
  · exact hp
  · split
    · exact hp
    · rename_i hv
      split
      · rename_i hc
        obtain ⟨ρ', h1, h2, R, F, h5⟩ := hp
        have hlen := F.len
        have hb : ∀ {i : Nat} {X : Option Blk}, (H.take h.length)[i]? = some X → i < h.length ∧ H[i]? = some X := fun {i X} hi => by
          rw [List.getElem?_take] at hi
          split at hi
          · rename_i hlt; exact ⟨hlt, hi⟩
          · cases hi
        have hn : (H.take h.length).length = h.length := by rw [List.length_take]; omega
        refine ⟨ρ', h1, h2, ⟨fun i B hi => R.cell i B (hb hi).2, fun i j hi hj he => ?_, fun i B hi => by rw [hn]; exact cleanH_ok _ _ hc i B (hb hi).1 (hb hi).2, fun p hp => ?_, by rw [hn]; exact Nat.le_trans hL hl, fun i hi => ?_⟩, ⟨F.os, F.tape, F.output, F.size, F.blk, F.ren, by rw [hn]; exact Nat.le_refl _, fun i hi hw => ?_, fun i hi hw => ?_⟩, by rw [hn]; exact hv⟩
        · obtain ⟨C, a1, a2, a3⟩ := hi
          obtain ⟨D, b1, b3⟩ := hj
          exact R.inj i j ⟨C, (hb a1).2, a2, a3⟩ ⟨D, (hb b1).2, b3⟩ he
        · obtain ⟨g1, g2, g3⟩ := R.glob p hp
          rw [hn]
          exact ⟨g1, g2, (RH.glob p hp).2.2⟩
        · rw [List.getElem?_take, if_pos (by omega)]; exact R.base i hi
        · have := hw.lt; omega
        · obtain ⟨B, k1, k2, k3⟩ := hw
          exact F.dead i hi ⟨B, (hb k1).2, k2, k3⟩
      · exact hp
theorem evYlds_sound (hm : c.P.follows .mixedOrders = true) (hfn : ∀ f, c.fns f = true → Callable c.P f) {call : FuncId → List V → Heap → Nat → List Ans → Option Out}
    (hcall : ∀ f args h lim ans out, call f args h lim ans = some out → (∀ p ∈ out.cons, p) → c.L ≤ lim → lim ≤ h.length → ∀ ρ w, RelH c ρ h w → unders h.length args = true → Calls c.P f (concs ρ args).toArray w (Post c lim ρ h w out.v out.h)) : ∀ m, CallOk c ⟨call, evYlds c call m⟩
  | 0 => ⟨hcall, fun b args h lim ans out he => by cases he⟩
  | m + 1 => ⟨hcall, fun b args h lim ans out he hc hL hl ρ w RH hu => evYld_sound hm hfn (evYlds_sound hm hfn hcall m) he hc hL hl RH hu⟩
theorem evFunc_sound (hm : c.P.follows .mixedOrders = true) (hfn : ∀ f, c.fns f = true → Callable c.P f) : ∀ n f args h lim ans out, evFunc c n f args h lim ans = some out → (∀ p ∈ out.cons, p) → c.L ≤ lim → lim ≤ h.length → ∀ ρ w, RelH c ρ h w → unders h.length args = true → Calls c.P f (concs ρ args).toArray w (Post c lim ρ h w out.v out.h) := by
  intro n
  induction n with
  | zero => intro f args h lim ans out he; simp [evFunc] at he
  | succ n ih =>
    intro f args h lim ans out he hc hL hl ρ w RH hu
    simp only [evFunc] at he
    split at he
    · split at he
      · split at he
        · simp only [Option.some.injEq] at he
          subst he
          exact (hc _ List.mem_cons_self) _ _ hL hl ρ w RH hu
        · split at he
          · split at he
            · rename_i hb
              split at he
              · rename_i hlb
                simp only [Option.some.injEq] at he
                subst he
                exact (hc _ List.mem_cons_self) _ _ _ hL hl hlb hb ρ w RH hu
              · cases he
            · cases he
          · cases he
      · split at he
        · split at he
          · rename_i hb
            simp only [Option.some.injEq] at he
            subst he
            exact (hc _ List.mem_cons_self) _ _ _ _ hL hl hb ρ w RH hu
          · cases he
        · simp only [Option.some.injEq] at he
          subst he
          exact (hc _ List.mem_cons_self) _ _ hL hl ρ w RH hu
    · simp only [Option.some.injEq] at he
      subst he
      exact (hc _ List.mem_cons_self) ρ w RH hu
    · split at he
      · cases he
      · rename_i ans1 _
        split at he
        · cases he
        · rename_i fn hf
          split at he
          · cases he
          · rename_i code hb
            split at he
            · split at he
              · unfold gcO at he
                split at he
                · cases he
                · rename_i r hr
                  simp only [Option.some.injEq] at he
                  subst he
                  exact (evDeferring_sound hm (evYlds_sound hm hfn ih 3) hfn hL hf hb hr hc hl RH hu).mono fun e w' hp => post_gc RH hL hl hp
              · cases he
            · rename_i r hr
              have fin : ∀ {vs : List V}, (∀ i, r.e ≠ .exit i) → resultsV c r.t r.h fn.results.toList = some vs → out = ⟨oneOf vs, gcH c h.length (oneOf vs) r.h, r.ans, r.cons⟩ → Calls c.P f (concs ρ args).toArray w (Post c lim ρ h w out.v out.h) := by
                intro vs hne hvs ho
                subst ho
                have hrun := evCode_sound hm (evYlds_sound hm hfn ih 3) hfn hL (rnd := none) code 0 _ _ _ _ hr hc hl (fun b e => by cases e) (fun j x hx => by
                  unfold rangeAt
                  rw [hf]
                  simp only [hb]
                  rw [Nat.zero_add, List.getD_eq_getElem?_getD, hx]
                  rfl)
                have htm : (concs ρ args).toArray ++ Array.replicate (fn.ntmps - (concs ρ args).toArray.size) undef = (concs ρ (args ++ List.replicate (fn.ntmps - args.length) (.raw undef))).toArray := by
                  apply Array.toList_inj.1
                  simp [concs_map, V.conc]
                refine Calls.mono ?_ fun e w' hp => post_gc RH hL hl hp
                refine (callsIn_wide (n := 0)).1 (callsIn_of_wp_marks hf hb trivial ?_)
                rw [htm]
                refine hrun.go (ρ := ρ) ⟨rfl, fun x hx => ?_⟩ RH fun ρ1 a1 w1 ms d1 M1 RT1 RH1 F1 => ?_
                · rcases List.mem_append.1 hx with h1 | h1
                  · exact V.slot_of_under _ ((unders_iff _ _).1 hu x h1)
                  · rw [List.eq_of_mem_replicate h1]; rfl
                · obtain ⟨Ds, rfl, m2, m3⟩ := M1
                  simp only [List.append_nil] at d1
                  have out1 : LeavesInM Fence.wide 0 c.P fn a1.tmps (Post c lim ρ h w (oneOf vs) r.h) (Ds.map markOf) .returning w1 := by
                    refine leaves_marks Ds w1 m2 m3 RH1 F1 fun w' RH' F' => ?_
                    obtain ⟨h1, h2⟩ := results_ok RH' RT1 hvs
                    exact ⟨_, h1, ⟨ρ1.blk, ρ.unk⟩, rfl, by rw [V.conc_agree (ρ := ρ1) (ρ' := ⟨ρ1.blk, ρ.unk⟩) (fun _ _ => rfl) _ h2], relH_unk RH' _, F'.unk _, h2⟩
                  cases he : r.e with
                  | exit i => exact absurd he (hne i)
                  | normal => show LeavesInM _ _ _ _ _ _ a1.defers _ _; rw [d1]; exact out1
                  | ret => show LeavesInM _ _ _ _ _ _ a1.defers _ _; rw [d1]; exact out1
              split at he
              · cases he
              · rename_i hne
                split at he
                · cases he
                · rename_i vs hvs
                  simp only [Option.some.injEq] at he
                  exact fin hne hvs he.symm
def Paid : List Prop → Prop
  | [] => True
  | p :: l => p ∧ Paid l
theorem Paid.all : ∀ {l : List Prop}, Paid l → ∀ p ∈ l, p
  | [], _, p, hp => by cases hp
  | q :: l, h, p, hp => by
    rcases List.mem_cons.1 hp with rfl | hp
    · exact h.1
    · exact Paid.all h.2 p hp
theorem meets_of (hm : c.P.follows .mixedOrders = true) (hfn : ∀ f, c.fns f = true → Callable c.P f) {lim : Nat} (hL : c.L ≤ lim) {n : Nat} {f : FuncId} {args : List V} {h h' : Heap} (hl : lim ≤ h.length) {ans ans' : List Ans} {v : V} {cons : List Prop}
    (he : evFunc c n f args h lim ans = some ⟨v, h', ans', cons⟩) (hc : Paid cons) : Meets c lim f args h v h' :=
  fun ρ w RH hu => evFunc_sound hm hfn n f args h lim ans _ he (fun p hp => hc.all p hp) hL hl ρ w RH hu
end
end Go.Proofs.Ytcibaankajfhlaa.E2
end
section
namespace Go.Proofs.Ytcibaankajfhlaa.E2
open Go Go.RowKit
mutual
def V.mv (τ : Nat → Nat) (nl : Nat → Bool) : V → V
  | .raw v => .raw v
  | .any k => .any k
  | .ptr b o => .ptr (τ b) o
  | .slo b l => match nl b with
    | true => .raw (.slice none 0 0)
    | false => .slo (τ b) l
  | .sub b o l k => match nl b with
    | true => .raw (.slice none 0 0)
    | false => .sub (τ b) o l k
  | .yld b => .yld (τ b)
  | .mp b => .mp (τ b)
  | .fn f x y => .fn f (mvs τ nl x) (mvs τ nl y)
  | .agg l => .agg (mvs τ nl l)
  | .tup l => .tup (mvs τ nl l)
  | .lit b => .lit b
def mvs (τ : Nat → Nat) (nl : Nat → Bool) : List V → List V
  | [] => []
  | x :: l => x.mv τ nl :: mvs τ nl l
end
mutual
def V.nilOk (nl : Nat → Bool) : V → Bool
  | .raw _ => true
  | .any _ => true
  | .ptr b _ => !nl b
  | .slo b l => match nl b with
    | true => l == 0
    | false => true
  | .sub b o l k => match nl b with
    | true => l == 0 && k == 0
    | false => true
  | .yld b => !nl b
  | .mp b => !nl b
  | .fn _ x y => nilOks nl x && nilOks nl y
  | .agg l => nilOks nl l
  | .tup l => nilOks nl l
  | .lit _ => true
def nilOks (nl : Nat → Bool) : List V → Bool
  | [] => true
  | x :: l => x.nilOk nl && nilOks nl l
end
def Moved (τ : Nat → Nat) (nl : Nat → Bool) (ρ ρ' : Ren) : Prop := ∀ i, (nl i = true → (ρ'.blk i).nil = true) ∧ (nl i = false → ρ'.blk i = ρ.blk (τ i))
mutual
theorem V.mv_conc {τ : Nat → Nat} {nl : Nat → Bool} {ρ ρ' : Ren} (h : Moved τ nl ρ ρ') (hu : ρ'.unk = ρ.unk) : ∀ x : V, x.nilOk nl = true → x.conc ρ' = (x.mv τ nl).conc ρ
  | .raw v, _ => rfl
  | .any k, _ => by simp only [V.conc, V.mv, hu]
  | .ptr b o, hx => by
    simp only [V.nilOk, Bool.not_eq_true'] at hx
    simp only [V.conc, V.mv, (h b).2 hx]
  | .slo b l, hx => by
    simp only [V.nilOk] at hx
    simp only [V.mv]
    cases hb : nl b with
    | true =>
      rw [hb] at hx
      have : l = 0 := by simpa using hx
      subst this
      simp only [V.conc, slcOf, (h b).1 hb, and_self, if_true]
    | false => simp only [V.conc, (h b).2 hb]
  | .sub b o l k, hx => by
    simp only [V.nilOk] at hx
    simp only [V.mv]
    cases hb : nl b with
    | true =>
      rw [hb] at hx
      simp only [Bool.and_eq_true, beq_iff_eq] at hx
      obtain ⟨rfl, rfl⟩ := hx
      simp only [V.conc, subOf, (h b).1 hb, and_self, if_true]
    | false => simp only [V.conc, (h b).2 hb]
  | .yld b, hx => by
    simp only [V.nilOk, Bool.not_eq_true'] at hx
    simp only [V.conc, V.mv, (h b).2 hx]
  | .mp b, hx => by
    simp only [V.nilOk, Bool.not_eq_true'] at hx
    simp only [V.conc, V.mv, (h b).2 hx]
  | .fn f x y, hx => by
    simp only [V.nilOk, Bool.and_eq_true] at hx
    simp only [V.conc, V.mv, mvs_conc h hu x hx.1, mvs_conc h hu y hx.2]
  | .agg l, hx => by simp only [V.nilOk] at hx; simp only [V.conc, V.mv, mvs_conc h hu l hx]
  | .tup l, hx => by simp only [V.nilOk] at hx; simp only [V.conc, V.mv, mvs_conc h hu l hx]
  | .lit b, _ => rfl
theorem mvs_conc {τ : Nat → Nat} {nl : Nat → Bool} {ρ ρ' : Ren} (h : Moved τ nl ρ ρ') (hu : ρ'.unk = ρ.unk) : ∀ l : List V, nilOks nl l = true → concs ρ' l = concs ρ (mvs τ nl l)
  | [], _ => rfl
  | x :: l, hx => by
    simp only [nilOks, Bool.and_eq_true] at hx
    simp only [concs, mvs, V.mv_conc h hu x hx.1, mvs_conc h hu l hx.2]
end
theorem mvs_length (τ : Nat → Nat) (nl : Nat → Bool) : ∀ l : List V, (mvs τ nl l).length = l.length
  | [] => rfl
  | x :: l => by simp [mvs, mvs_length τ nl l]
theorem mvs_raw (τ : Nat → Nat) (nl : Nat → Bool) : ∀ l : List V, l.all isRawV = true → mvs τ nl l = l
  | [], _ => rfl
  | x :: l, h => by
    simp only [List.all_cons, Bool.and_eq_true] at h
    simp only [mvs, mvs_raw τ nl l h.2]
    cases x <;> first | rfl | simp [isRawV] at h
theorem nilOks_raw (nl : Nat → Bool) : ∀ l : List V, l.all isRawV = true → nilOks nl l = true
  | [], _ => rfl
  | x :: l, h => by
    simp only [List.all_cons, Bool.and_eq_true] at h
    simp only [nilOks, nilOks_raw nl l h.2, Bool.and_true]
    cases x <;> first | rfl | simp [isRawV] at h
theorem unders_raws (n : Nat) : ∀ l : List V, l.all isRawV = true → unders n l = true
  | [], _ => rfl
  | x :: l, h => by
    simp only [List.all_cons, Bool.and_eq_true] at h
    simp only [unders, unders_raws n l h.2, Bool.and_true]
    cases x <;> first | rfl | simp [isRawV] at h
def Blk.mv (τ : Nat → Nat) (nl : Nat → Bool) : Blk → Blk
  | .cells cs ty own => .cells (mvs τ nl cs) ty own
  | .rcd r => .rcd { r with t := mvs τ nl r.t }
  | .mp ks vs bs k => .mp ks (mvs τ nl vs) bs k
def Blk.nilOk (nl : Nat → Bool) : Blk → Bool
  | .cells cs _ _ => nilOks nl cs
  | .rcd r => nilOks nl r.t
  | .mp _ vs _ _ => nilOks nl vs
theorem BlkOk.mv {P : Program} {τ : Nat → Nat} {nl : Nat → Bool} {ρ ρ' : Ren} (h : Moved τ nl ρ ρ') {l : Loc} {w : World} {B : Blk} {n : Nat} (hun : B.under n = true) (hn : B.nilOk nl = true) : BlkOk P ρ l w (B.mv τ nl) ↔ BlkOk P ρ' l w B := by
  cases B with
  | cells cs ty own =>
    have e : concs ρ' cs = concs ρ (mvs τ nl cs) := by
      have := mvs_conc (ρ := ρ) (ρ' := ⟨ρ'.blk, ρ.unk⟩) h rfl cs hn
      rw [← this]
      exact concs_agree (ρ := ⟨ρ'.blk, ρ.unk⟩) (ρ' := ρ') (n := n) (fun _ _ => rfl) cs hun
    constructor
    · intro hb
      refine ⟨fun hl => ?_, fun hl => ?_, fun sz hs => ?_⟩
      · have := hb.nil hl
        exact List.eq_nil_of_length_eq_zero (by rw [← mvs_length τ nl cs, this]; rfl)
      · obtain ⟨fr, h1, h2⟩ := hb.row hl
        exact ⟨fr, by rw [e]; exact h1, h2⟩
      · obtain ⟨h1, h2⟩ := hb.room sz hs
        exact ⟨h1, fun hl => by rw [← mvs_length τ nl cs]; exact h2 hl⟩
    · intro hb
      refine ⟨fun hl => ?_, fun hl => ?_, fun sz hs => ?_⟩
      · rw [hb.nil hl]; rfl
      · obtain ⟨fr, h1, h2⟩ := hb.row hl
        exact ⟨fr, by rw [← e]; exact h1, h2⟩
      · obtain ⟨h1, h2⟩ := hb.room sz hs
        exact ⟨h1, fun hl => by rw [mvs_length]; exact h2 hl⟩
  | rcd r =>
    have e : ∀ u, concs ⟨ρ'.blk, u⟩ r.t = concs ⟨ρ.blk, u⟩ (mvs τ nl r.t) := fun u => mvs_conc (ρ := ⟨ρ.blk, u⟩) (ρ' := ⟨ρ'.blk, u⟩) h rfl r.t hn
    constructor
    · rintro ⟨h1, fn, u, D, h2⟩
      refine ⟨h1, fn, u, D, ?_⟩
      rw [h2]
      simp only [Rec.loop, e u]
    · rintro ⟨h1, fn, u, D, h2⟩
      refine ⟨h1, fn, u, D, ?_⟩
      rw [h2]
      simp only [Rec.loop, e u]
  | mp ks vs bs k =>
    have e : concs ρ' vs = concs ρ (mvs τ nl vs) := by
      have := mvs_conc (ρ := ρ) (ρ' := ⟨ρ'.blk, ρ.unk⟩) h rfl vs hn
      rw [← this]
      exact concs_agree (ρ := ⟨ρ'.blk, ρ.unk⟩) (ρ' := ρ') (n := n) (fun _ _ => rfl) vs hun
    exact ⟨fun hb => ⟨hb.1, by rw [e]; exact hb.2⟩, fun hb => ⟨hb.1, by rw [← e]; exact hb.2⟩⟩
def anyOwn : Nat → List V → Bool
  | _, [] => true
  | i, .any j :: l => decide (j = i) && anyOwn (i + 1) l
  | i, _ :: l => anyOwn (i + 1) l
theorem anyOwn_get : ∀ (l : List V) (k i j : Nat), anyOwn k l = true → l[i]? = some (.any j) → j = k + i
  | [], k, i, j, h, hg => by simp at hg
  | v :: l, k, 0, j, h, hg => by
    simp only [List.getElem?_cons_zero, Option.some.injEq] at hg
    subst hg
    simp only [anyOwn, Bool.and_eq_true, decide_eq_true_eq] at h
    omega
  | v :: l, k, i + 1, j, h, hg => by
    simp only [List.getElem?_cons_succ] at hg
    have h' : anyOwn (k + 1) l = true := by
      cases v with
      | any q => simp only [anyOwn, Bool.and_eq_true] at h; exact h.2
      | _ => simpa only [anyOwn] using h
    have := anyOwn_get l (k + 1) i j h' hg
    omega
def hideBy : List V → List V → List V
  | .any k :: l, _ :: m => .any k :: hideBy l m
  | _ :: l, v :: m => v :: hideBy l m
  | [], m => m
  | _, [] => []
theorem hideBy_get : ∀ (l m : List V), l.length = m.length → ∀ i : Nat, (hideBy l m)[i]? = (match (l[i]? : Option V) with
    | some (V.any k) => some (V.any k)
    | _ => m[i]?)
  | [], [], _, i => by simp [hideBy]
  | [], y :: m, h, i => by simp at h
  | x :: l, [], h, i => by simp at h
  | x :: l, y :: m, h, 0 => by cases x <;> simp [hideBy]
  | x :: l, y :: m, h, i + 1 => by
    have := hideBy_get l m (by simpa using h) i
    cases x <;> simpa [hideBy] using this
def tauOf (n0 : Nat) (ks : List (Option Nat)) (j : Nat) : Nat := if j < n0 then j else (ks[j - n0]?).join.getD 0
def nlOf (n0 : Nat) (ks : List (Option Nat)) (j : Nat) : Bool := decide (n0 ≤ j) && (match ks[j - n0]? with
  | some none => true
  | _ => false)
def keysOk (lim n0 m : Nat) (H : Heap) : List (Option Nat) → Bool
  | [] => true
  | none :: l => keysOk lim n0 m H l
  | some b :: l => decide (lim ≤ b) && decide (b < m) && (!decide (b < n0) || match H[b]? with
      | some (some _) => false
      | _ => true) && !l.contains (some b) && keysOk lim n0 m H l
def nilB : Blk → Prop
  | .cells [] _ (.row _) => True
  | _ => False
def entries (τ : Nat → Nat) (nl : Nat → Bool) (h : Heap) (m : Nat) : Nat → Heap → List Prop
  | _, [] => []
  | j, none :: l => entries τ nl h m (j + 1) l
  | j, some B :: l => (match nl j with
      | true => nilB B
      | false => h[τ j]? = some (some (B.mv τ nl))) :: (B.under m = true) :: (B.nilOk nl = true) :: entries τ nl h m (j + 1) l
theorem entries_get {τ : Nat → Nat} {nl : Nat → Bool} {h : Heap} {m : Nat} : ∀ (l : Heap) (j : Nat), Paid (entries τ nl h m j l) → ∀ i B, l[i]? = some (some B) → (match nl (j + i) with
      | true => nilB B
      | false => h[τ (j + i)]? = some (some (B.mv τ nl))) ∧ B.under m = true ∧ B.nilOk nl = true
  | [], j, hp, i, B, hB => by simp at hB
  | none :: l, j, hp, 0, B, hB => by simp at hB
  | none :: l, j, hp, i + 1, B, hB => by
    have := entries_get l (j + 1) hp i B (by simpa using hB)
    rwa [show j + 1 + i = j + (i + 1) by omega] at this
  | some C :: l, j, hp, 0, B, hB => by
    simp only [List.getElem?_cons_zero, Option.some.injEq] at hB
    subst hB
    exact ⟨hp.1, hp.2.1, hp.2.2.1⟩
  | some C :: l, j, hp, i + 1, B, hB => by
    have := entries_get l (j + 1) hp.2.2.2 i B (by simpa using hB)
    rwa [show j + 1 + i = j + (i + 1) by omega] at this
theorem keysOk_get {lim n0 m : Nat} {H : Heap} : ∀ (ks : List (Option Nat)), keysOk lim n0 m H ks = true → (∀ (i b : Nat), ks[i]? = some (some b) → lim ≤ b ∧ b < m ∧ (b < n0 → ∀ B, H[b]? ≠ some (some B))) ∧ ∀ (i j b : Nat), ks[i]? = some (some b) → ks[j]? = some (some b) → i = j
  | [], _ => ⟨fun i b h => by simp at h, fun i j b h => by simp at h⟩
  | none :: l, h => by
    obtain ⟨h1, h2⟩ := keysOk_get l h
    refine ⟨fun i b hi => ?_, fun i j b hi hj => ?_⟩
    · cases i with
      | zero => simp at hi
      | succ i => exact h1 i b (by simpa using hi)
    · cases i with
      | zero => simp at hi
      | succ i => cases j with
        | zero => simp at hj
        | succ j => rw [h2 i j b (by simpa using hi) (by simpa using hj)]
  | some x :: l, h => by
    simp only [keysOk, Bool.and_eq_true, decide_eq_true_eq, Bool.or_eq_true, Bool.not_eq_true', decide_eq_false_iff_not] at h
    obtain ⟨⟨⟨⟨k1, k2⟩, k3⟩, k4⟩, k5⟩ := h
    obtain ⟨h1, h2⟩ := keysOk_get l k5
    have no : ∀ i : Nat, l[i]? ≠ some (some x) := fun i hi => by
      have := List.mem_of_getElem? hi
      rw [← List.contains_iff_mem, k4] at this
      cases this
    refine ⟨fun i b hi => ?_, fun i j b hi hj => ?_⟩
    · cases i with
      | zero =>
        simp only [List.getElem?_cons_zero, Option.some.injEq] at hi
        subst hi
        refine ⟨k1, k2, fun hlt B hB => ?_⟩
        rcases k3 with k3 | k3
        · exact k3 hlt
        · rw [hB] at k3; cases k3
      | succ i => exact h1 i b (by simpa using hi)
    · cases i with
      | zero =>
        simp only [List.getElem?_cons_zero, Option.some.injEq] at hi
        cases j with
        | zero => rfl
        | succ j =>
          subst hi
          exact absurd (by simpa using hj) (no j)
      | succ i => cases j with
        | zero =>
          simp only [List.getElem?_cons_zero, Option.some.injEq] at hj
          subst hj
          exact absurd (by simpa using hi) (no i)
        | succ j => rw [h2 i j b (by simpa using hi) (by simpa using hj)]
section
variable {c : Cfg} {lim n0 : Nat}
theorem reshape (hG : ∀ p ∈ c.G, p.2 < c.L) (ks : List (Option Nat)) {t T : List V} {h H : Heap} (hlen : n0 ≤ h.length) (hH : H.length = n0 + ks.length) (hl : lim ≤ n0) (hL : c.L ≤ lim)
    (hT : mvs (tauOf n0 ks) (nlOf n0 ks) T = hideBy T t) (hTl : T.length = t.length) (hTo : (anyOwn 0 T && T.all (·.slotOk H.length) && nilOks (nlOf n0 ks) T) = true) (hB : ∀ i, i < c.L → H[i]? = h[i]?) (hk : keysOk lim n0 h.length H ks = true) (hE : Paid (entries (tauOf n0 ks) (nlOf n0 ks) h H.length 0 H))
    {ρ : Ren} {a : Act} {w : World} (RT : RelT ρ h.length t a) (RH : RelH c ρ h w) : ∃ ρ', RelT ρ' H.length T a ∧ RelH c ρ' H w ∧ Fr lim n0 ρ h w ρ' H w := by
  generalize hτ : tauOf n0 ks = τ at *
  generalize hn : nlOf n0 ks = nl at *
  simp only [Bool.and_eq_true] at hTo
  obtain ⟨⟨t1, t2⟩, t3⟩ := hTo
  obtain ⟨k1, k2⟩ := keysOk_get ks hk
  have low : ∀ i, i < n0 → τ i = i ∧ nl i = false := fun i hi => by
    rw [← hτ, ← hn]
    refine ⟨by simp [tauOf, hi], ?_⟩
    simp only [nlOf, Bool.and_eq_false_iff, decide_eq_false_iff_not]
    exact .inl (by omega)
  have ent : ∀ i B, H[i]? = some (some B) → (match nl i with
      | true => nilB B
      | false => h[τ i]? = some (some (B.mv τ nl))) ∧ B.under H.length = true ∧ B.nilOk nl = true := fun i B hB => by
    have := entries_get H 0 hE i B hB
    rwa [Nat.zero_add] at this
  generalize hρ : (⟨fun j => if nl j = true then ⟨0, [], [], 0, true⟩ else ρ.blk (τ j), fun s => a.tmps.getD s undef⟩ : Ren) = ρ'
  have mv : Moved τ nl ρ ρ' := fun i => ⟨fun h => by rw [← hρ]; simp [h], fun h => by rw [← hρ]; simp [h]⟩
  -- where a live name comes from
  have from_ : ∀ i B, H[i]? = some (some B) → (ρ'.blk i).nil = false → ρ'.blk i = ρ.blk (τ i) ∧ h[τ i]? = some (some (B.mv τ nl)) := fun i B hB hnil => by
    cases hni : nl i with
    | true => rw [(mv i).1 hni] at hnil; cases hnil
    | false =>
      have := (ent i B hB).1
      rw [hni] at this
      exact ⟨(mv i).2 hni, this⟩
  have wr : ∀ B : Blk, (B.mv τ nl).wr = B.wr := fun B => by
    cases B with
    | cells cs ty own => cases own <;> rfl
    | rcd r => rfl
    | mp ks vs bs k => rfl
  have flw : ∀ i, lw ρ' H i → lw ρ h (τ i) ∧ ρ'.blk i = ρ.blk (τ i) := fun i ⟨B, b1, b2, b3⟩ => by
    obtain ⟨e1, e2⟩ := from_ i B b1 b3
    exact ⟨⟨_, e2, by rw [wr]; exact b2, by rw [← e1]; exact b3⟩, e1⟩
  have flv : ∀ i, lv ρ' H i → lv ρ h (τ i) ∧ ρ'.blk i = ρ.blk (τ i) := fun i ⟨B, b1, b3⟩ => by
    obtain ⟨e1, e2⟩ := from_ i B b1 b3
    exact ⟨⟨_, e2, by rw [← e1]; exact b3⟩, e1⟩
  have key : ∀ i, n0 ≤ i → lv ρ' H i → ∃ b, ks[i - n0]? = some (some b) ∧ τ i = b := fun i hi ⟨B, b1, b3⟩ => by
    have hil := lt_len b1
    cases hx : ks[i - n0]? with
    | none => rw [List.getElem?_eq_none_iff] at hx; omega
    | some x =>
      cases x with
      | none =>
        exfalso
        have : nl i = true := by
          rw [← hn]; simp [nlOf, hi, hx]
        rw [(mv i).1 this] at b3
        cases b3
      | some b => exact ⟨b, rfl, by rw [← hτ]; simp only [tauOf]; rw [if_neg (by omega), hx]; rfl⟩
  refine ⟨ρ', ⟨?_, fun x hx => List.all_eq_true.1 t2 x hx⟩, ⟨fun i B hB => ?_, fun i j hi hj he => ?_, fun i B hB => (ent i B hB).2.1, fun p hp => ?_, by rw [hH]; omega, fun i hi => by rw [hB i hi]; exact RH.base i hi⟩, ?_⟩
  · apply Array.ext_getElem?
    intro s
    have et : ∀ l : List Value, l.toArray[s]? = l[s]? := fun l => List.getElem?_toArray
    rw [et (concs ρ' T), concs_get]
    have h0 : a.tmps[s]? = (t[s]?).map (·.conc ρ) := by rw [RT.tmps, et (concs ρ t)]; exact concs_get ρ t s
    cases hv : T[s]? with
    | none =>
      rw [h0, List.getElem?_eq_none (by rw [List.getElem?_eq_none_iff] at hv; omega)]
      rfl
    | some v =>
      simp only [Option.map_some]
      have hs : s < t.length := by rw [← hTl]; exact (List.getElem?_eq_some_iff.1 hv).1
      have hg := hideBy_get T t hTl s
      rw [← hT, hv] at hg
      have hmg : (mvs τ nl T)[s]? = some (v.mv τ nl) := by
        have gen : ∀ (l : List V) (i : Nat), (mvs τ nl l)[i]? = (l[i]?).map (·.mv τ nl) := by
          intro l
          induction l with
          | nil => intro i; simp [mvs]
          | cons x l ih => intro i; cases i <;> simp [mvs, ih]
        rw [gen, hv]; rfl
      rw [hmg] at hg
      have hvm := List.mem_of_getElem? hv
      have hok := List.all_eq_true.1 t2 v hvm
      have hnil : v.nilOk nl = true := by
        have gen : ∀ l : List V, nilOks nl l = true → ∀ x ∈ l, x.nilOk nl = true := by
          intro l
          induction l with
          | nil => intro _ x hx; cases hx
          | cons y l ih =>
            intro hl x hx
            simp only [nilOks, Bool.and_eq_true] at hl
            rcases List.mem_cons.1 hx with rfl | hx
            · exact hl.1
            · exact ih hl.2 x hx
        exact gen T t3 v hvm
      cases v with
      | any k =>
        have := anyOwn_get T 0 s k t1 hv
        rw [Nat.zero_add] at this
        subst this
        rw [← hρ]
        simp only [V.conc]
        have hsz : k < a.tmps.size := by rw [RT.tmps]; simpa [concs_length] using hs
        simp [hsz]
      | _ =>
        rw [h0]
        simp only at hg
        rw [← hg]
        simp only [Option.map_some]
        have e1 := V.mv_conc (ρ := ρ) (ρ' := ⟨ρ'.blk, ρ.unk⟩) mv rfl _ hnil
        rw [← e1]
        exact congrArg some (V.conc_agree (ρ := ρ') (ρ' := ⟨ρ'.blk, ρ.unk⟩) (n := H.length) (fun _ _ => rfl) _ hok)
  · obtain ⟨e1, e2, e3⟩ := ent i B hB
    cases hni : nl i with
    | true =>
      rw [hni] at e1
      have hnil := (mv i).1 hni
      cases B with
      | cells cs ty own =>
        cases cs with
        | nil =>
          cases own with
          | row sz =>
            refine ⟨fun _ => rfl, fun h => (by rw [hnil] at h; cases h), fun _ _ => ⟨?_, fun h => (by rw [hnil] at h; cases h)⟩⟩
            rw [← hρ]; simp [hni]
          | _ => exact e1.elim
        | cons _ _ => exact e1.elim
      | rcd r => exact e1.elim
      | mp ks vs bs k => exact e1.elim
    | false =>
      rw [hni] at e1
      rw [(mv i).2 hni]
      exact (BlkOk.mv mv e2 e3).1 (RH.cell _ _ e1)
  · obtain ⟨a1, a2⟩ := flw i hi
    obtain ⟨b1, b2⟩ := flv j hj
    have e := RH.inj _ _ a1 b1 (by rw [← a2, ← b2]; exact he)
    have gone : ∀ x y, x < n0 → n0 ≤ y → lv ρ' H x → lv ρ' H y → τ x = τ y → False := fun x y hx hy hlx hly e => by
      obtain ⟨b, e1, e2⟩ := key y hy hly
      rw [(low x hx).1, e2] at e
      subst e
      obtain ⟨B, hB, _⟩ := hlx
      exact (k1 _ _ e1).2.2 hx B hB
    rcases Nat.lt_or_ge i n0 with hi0 | hi0 <;> rcases Nat.lt_or_ge j n0 with hj0 | hj0
    · rwa [(low i hi0).1, (low j hj0).1] at e
    · exact (gone i j hi0 hj0 hi.lv hj e).elim
    · exact (gone j i hj0 hi0 hj hi.lv e.symm).elim
    · obtain ⟨x, x1, x2⟩ := key i hi0 hi.lv
      obtain ⟨y, y1, y2⟩ := key j hj0 hj
      rw [x2, y2] at e
      subst e
      have := k2 _ _ _ x1 y1
      omega
  · obtain ⟨g1, g2, g3⟩ := RH.glob p hp
    have h1 := hG p hp
    have h2 := low p.2 (by omega)
    have e : ρ'.blk p.2 = ρ.blk p.2 := by rw [(mv p.2).2 h2.2, h2.1]
    exact ⟨by rw [e, g1], by rw [e, g2], by rw [hH]; omega⟩
  · refine ⟨rfl, rfl, rfl, Nat.le_refl _, fun _ _ _ => rfl, fun i hi => ?_, by omega, fun i hi hlw => ?_, fun i hi hlw => ?_⟩
    · rw [(mv i).2 (low i hi).2, (low i hi).1]
    · obtain ⟨a1, a2⟩ := flw i hlw
      obtain ⟨b, e1, e2⟩ := key i hi hlw.lv
      exact .inr ⟨τ i, by rw [e2]; exact (k1 _ _ e1).1, a1, by rw [a2]⟩
    · have := (flw i hlw).1
      rwa [(low i hi).1] at this
theorem Runs.pre {rnd : Option Nat} {code : Code} {t T T' : List V} {h H H' : Heap} {e : Ex} (hb : ∀ b, rnd = some b → b < n0) (hr : ∀ {ρ : Ren} {a : Act} {w : World}, RelT ρ h.length t a → RelH c ρ h w → ∃ ρ', RelT ρ' H.length T a ∧ RelH c ρ' H w ∧ Fr lim n0 ρ h w ρ' H w) (hs : Runs c lim n0 rnd code T H e T' H') : Runs c lim n0 rnd code t h e T' H' := by
  intro ρ a w RT RH
  obtain ⟨ρ1, RT1, RH1, F1⟩ := hr RT RH
  have := hs ρ1 a w RT1 RH1
  rw [rndOf_ren hb F1.ren] at this
  exact wpIn_mono this fun z a2 w2 ⟨hz, ρ2, ms, d, M, RT2, RH2, F2⟩ => ⟨hz, ρ2, ms, d, M, RT2, RH2, F1.trans F2⟩
theorem Runs.post {rnd : Option Nat} {code : Code} {t t1 T : List V} {h h1 H : Heap} {e : Ex} (hs : Runs c lim n0 rnd code t h e t1 h1) (hr : ∀ {ρ : Ren} {a : Act} {w : World}, RelT ρ h1.length t1 a → RelH c ρ h1 w → ∃ ρ', RelT ρ' H.length T a ∧ RelH c ρ' H w ∧ Fr lim n0 ρ h1 w ρ' H w) : Runs c lim n0 rnd code t h e T H := by
  intro ρ a w RT RH
  exact wpIn_mono (hs ρ a w RT RH) fun z a2 w2 ⟨hz, ρ2, ms, d, M, RT2, RH2, F2⟩ => by
    obtain ⟨ρ3, RT3, RH3, F3⟩ := hr RT2 RH2
    exact ⟨hz, ρ3, ms, d, M, RT3, RH3, F2.trans F3⟩
end
end Go.Proofs.Ytcibaankajfhlaa.E2
end
section
namespace Go.Proofs.Ytcibaankajfhlaa.E2
open Go Go.RowKit
section
variable {c : Cfg}
theorem below_rel {ρ : Ren} {h : Heap} {w w' : World} (RH : RelH c ρ h w) (hb : ∀ k, k < w.heap.size → w'.heap[k]? = w.heap[k]?) : RelH c ρ h w' :=
  ⟨fun i B hi => (RH.cell i B hi).move (RH.sco i B hi) (fun _ _ => rfl) fun hn => hb _ (RH.lt ⟨B, hi, hn⟩), RH.inj, RH.sco, RH.glob, RH.big, RH.base⟩
theorem below_fr {lim : Nat} {ρ : Ren} {h : Heap} {w w' : World} (hl : lim ≤ h.length) (hb : Below w.heap.size w w') : Fr lim h.length ρ h w ρ h w' :=
  ⟨hb.os, hb.tape, hb.output, hb.size, fun k hk _ => hb.block k hk, fun _ _ => rfl, Nat.le_refl _, fun i h1 h2 => .inr ⟨i, by omega, h2, rfl⟩, fun _ _ h => h⟩
theorem fn_of_base (hH : c.H0.length = c.L) (hsc : ∀ (i : Nat) (B : Blk), c.H0[i]? = some (some B) → B.under c.L = true) (hG : ∀ p ∈ c.G, p.2 < c.L) {f : FuncId} {args : List V} {v : V} {h' : Heap}
    (hua : unders c.L args = true) (hv : v.under c.L = true) (hm : Meets c c.L f args c.H0 v h') : Ret c f args v := by
  intro h lim hL hl ρ w RH hu
  have hget : ∀ {i : Nat} {B : Blk}, c.H0[i]? = some (some B) → h[i]? = some (some B) := fun {i B} hi => by
    have := lt_len hi
    rw [RH.base i (by omega)]; exact hi
  have R0 : RelH c ρ c.H0 w := by
    refine ⟨fun i B hi => RH.cell i B (hget hi), fun i j hi hj he => ?_, fun i B hi => by rw [hH]; exact hsc i B hi, fun p hp => ⟨(RH.glob p hp).1, (RH.glob p hp).2.1, by rw [hH]; exact hG p hp⟩, by omega, fun _ _ => rfl⟩
    obtain ⟨B, a1, a2, a3⟩ := hi
    obtain ⟨C, b1, b3⟩ := hj
    exact RH.inj i j ⟨B, hget a1, a2, a3⟩ ⟨C, hget b1, b3⟩ he
  refine (hm ρ w R0 (by rw [hH]; exact hua)).mono fun e w' ⟨ρ', h1, h2, h3, F, h5⟩ => ?_
  have hblk : ∀ k, k < w.heap.size → w'.heap[k]? = w.heap[k]? := fun k hk => F.blk k hk fun i h6 h7 => by
    have := h7.lt
    omega
  have e1 : v.conc ρ' = v.conc ρ := V.conc_agree (n := c.L) (fun i hi => F.ren i (by omega)) v hv
  exact ⟨ρ, rfl, by rw [← e1]; exact h2, below_rel RH hblk, below_fr hl ⟨F.os, F.tape, F.output, F.size, fun k hk => hblk k hk⟩, V.under_mono RH.big v hv⟩
theorem fn_of (hm : c.P.follows .mixedOrders = true) (hfn : ∀ f, c.fns f = true → Callable c.P f) (hH : c.H0.length = c.L) (hsc : ∀ (i : Nat) (B : Blk), c.H0[i]? = some (some B) → B.under c.L = true) (hG : ∀ p ∈ c.G, p.2 < c.L)
    {n : Nat} {f : FuncId} {args : List V} {ans : List Ans} {v : V} {cons : List Prop} (he : (evFunc c n f args c.H0 c.L ans).map (fun o => (o.v, o.cons)) = some (v, cons)) (hua : unders c.L args = true) (hv : v.under c.L = true) (hc : Paid cons) : Ret c f args v := by
  rw [Option.map_eq_some_iff] at he
  obtain ⟨o, h1, h2⟩ := he
  obtain ⟨v', h', ans', cons'⟩ := o
  simp only [Prod.mk.injEq] at h2
  obtain ⟨rfl, rfl⟩ := h2
  exact fn_of_base hH hsc hG hua hv (meets_of hm hfn (Nat.le_refl _) (by omega) h1 hc)
theorem meets_ev (hm : c.P.follows .mixedOrders = true) (hfn : ∀ f, c.fns f = true → Callable c.P f) {lim : Nat} {H : Heap} (hL : c.L ≤ lim) (hl : lim ≤ H.length)
    {n : Nat} {f : FuncId} {args : List V} {ans : List Ans} {v : V} {h' : Heap} {cons : List Prop} (he : (evFunc c n f args H lim ans).map (fun o => (o.v, o.h, o.cons)) = some (v, h', cons)) (hc : Paid cons) : Meets c lim f args H v h' := by
  rw [Option.map_eq_some_iff] at he
  obtain ⟨o, h1, h2⟩ := he
  obtain ⟨v', h', ans', cons'⟩ := o
  simp only [Prod.mk.injEq] at h2
  obtain ⟨rfl, rfl, rfl⟩ := h2
  exact meets_of hm hfn hL hl h1 hc
theorem fn_of_calls {f : FuncId} {args : List Value} {x : Value} (h : ∀ w : World, Calls c.P f args.toArray w fun e w' => e = .returned x ∧ Below w.heap.size w w') : Ret c f (args.map .raw) (.raw x) := by
  intro h0 lim hL hl ρ w RH hu
  rw [concs_raw]
  refine (h w).mono fun e w' ⟨he, hb⟩ => ?_
  subst he
  exact ⟨ρ, rfl, rfl, below_rel RH hb.block, below_fr hl hb, rfl⟩
theorem inR_i64 {n : Int} (h1 : -9223372036854775808 ≤ n) (h2 : n ≤ 9223372036854775807) : inR .i64 n := IntWalk.i64_in n (by omega)
theorem Meets.post {lim : Nat} {f : FuncId} {args : List V} {h h1 H : Heap} {v v' : V} (hm : Meets c lim f args h v h1) (hna : v'.under H.length = true)
    (hr : ∀ {ρ : Ren} {a : Act} {w : World}, RelT ρ h1.length [v] a → RelH c ρ h1 w → ∃ ρ', RelT ρ' H.length [v'] a ∧ RelH c ρ' H w ∧ Fr lim h.length ρ h1 w ρ' H w) : Meets c lim f args h v' H := by
  intro ρ w RH hu
  refine (hm ρ w RH hu).mono fun e w' ⟨ρ1, k1, k2, RH1, F1, k5⟩ => ?_
  obtain ⟨ρ2, RT2, RH2, F2⟩ := hr (a := ⟨#[v.conc ρ1], []⟩) ⟨rfl, fun x hx => by rw [List.mem_singleton] at hx; subst hx; exact V.slot_of_under _ k5⟩ RH1
  refine ⟨⟨ρ2.blk, ρ.unk⟩, rfl, ?_, relH_unk RH2 _, (F1.trans F2).unk _, hna⟩
  have e1 : v.conc ρ1 = v'.conc ρ2 := by
    have := RT2.tmps
    simp only [concs] at this
    have h2 := congrArg Array.toList this
    simpa using h2
  rw [k2, e1, V.conc_agree (ρ := ρ2) (ρ' := ⟨ρ2.blk, ρ.unk⟩) (fun _ _ => rfl) _ hna]
def loopsIn : Code → List Code
  | .loop x => x :: loopsIn x
  | .seq x y => loopsIn x ++ loopsIn y
  | .cond _ x y => loopsIn x ++ loopsIn y
  | .block _ x => loopsIn x
  | .scope x => loopsIn x
  | .rangeFunc _ _ _ y => loopsIn y
  | _ => []
def loopOf (P : Program) (f i : Nat) : Code := match P.funcs[f]? with
  | some fn => match fn.body with
    | some b => (loopsIn b).getD i .skip
    | none => .skip
  | none => .skip
theorem body_of (hmx : c.P.follows .mixedOrders = true) (hfn : ∀ f, c.fns f = true → Callable c.P f) {lim : Nat} (hL : c.L ≤ lim) {rnd : Option Nat} {fi k n n0 : Nat} {code : Code} {T T' : List V} {H H' : Heap} {ans : List Ans} {e : Ex} {cons : List Prop}
    (he : (evCode c ⟨evFunc c n, evYlds c (evFunc c n) 3⟩ lim rnd fi code k T H ans).map (fun r => (r.e, r.t, r.h, r.cons)) = some (e, T', H', cons)) (hp : Paid cons)
    (hln : lim ≤ n0) (hnl : n0 ≤ H.length) (hb : ∀ b, rnd = some b → b < H.length) (hs : ∀ j x, (rangesIn code)[j]? = some x → rangeAt c.P fi (k + j) = x) : Runs c lim n0 rnd code T H e T' H' := by
  rw [Option.map_eq_some_iff] at he
  obtain ⟨r, h1, h2⟩ := he
  simp only [Prod.mk.injEq] at h2
  obtain ⟨rfl, rfl, rfl, rfl⟩ := h2
  exact (evCode_sound hmx (evYlds_sound hmx hfn (evFunc_sound hmx hfn n) 3) hfn hL code k _ _ _ _ h1 hp.all (Nat.le_trans hln hnl) hb hs).fewer hnl hln
theorem noRanges {P : Program} {fi k : Nat} {code : Code} (h : (rangesIn code).isEmpty = true) : ∀ j x, (rangesIn code)[j]? = some x → rangeAt P fi (k + j) = x := fun j x hx => by
  rw [List.isEmpty_iff] at h
  rw [h] at hx
  simp at hx
theorem noRnd {n : Nat} : ∀ b, (none : Option Nat) = some b → b < n := fun b e => by cases e
end
end Go.Proofs.Ytcibaankajfhlaa.E2
end
section
namespace Go.Proofs.Ytcibaankajfhlaa
open Go Go.RowKit Go.Proofs.Ytcibaankajfhlaa.E2
noncomputable def cfx : Cfg := ⟨Try.prog, [], 0, [], true, fun f => (Try.prog.funcs[f]?).any fun fn => !fn.body.isNone, false⟩
theorem cfx_mixed : cfx.P.follows .mixedOrders = true := by kernel_rfl
theorem funcs_plain2 : ((Try.prog.funcs.toList.all fun fn => !(fn.name == "runtime.NumGoroutine"))) = true := by kernel_rfl
theorem cfx_call : ∀ f, cfx.fns f = true → Callable cfx.P f := fun f hf => by
  cases hg : Try.prog.funcs[f]? with
  | none =>
    have hf' : ((Try.prog.funcs[f]?).any fun fn => !fn.body.isNone) = true := hf
    rw [hg] at hf'
    cases hf'
  | some fn =>
    have hf' : ((Try.prog.funcs[f]?).any fun fn => !fn.body.isNone) = true := hf
    rw [hg] at hf'
    have h := List.all_eq_true.1 funcs_plain2 fn (Array.mem_toList_iff.2 (Array.mem_of_getElem? hg))
    exact ⟨fn, hg, by simpa using h, by simpa using hf'⟩
theorem cfx_base : cfx.H0.length = cfx.L ∧ (∀ (i : Nat) (B : Blk), cfx.H0[i]? = some (some B) → B.under cfx.L = true) ∧ ∀ p ∈ cfx.G, p.2 < cfx.L :=
  ⟨rfl, fun i B h => by simp [cfx] at h, fun p h => by simp [cfx] at h⟩
theorem cfx_G : ∀ p ∈ cfx.G, p.2 < cfx.L := fun p h => by simp [cfx] at h
noncomputable def cfxW : Cfg := ⟨Try.prog, [], 0, [], false, fun f => (Try.prog.funcs[f]?).any fun fn => !fn.body.isNone, false⟩
theorem cfxW_mixed : cfxW.P.follows .mixedOrders = true := cfx_mixed
theorem cfxW_call : ∀ f, cfxW.fns f = true → Callable cfxW.P f := cfx_call
theorem cfxW_base : cfxW.H0.length = cfxW.L ∧ (∀ (i : Nat) (B : Blk), cfxW.H0[i]? = some (some B) → B.under cfxW.L = true) ∧ ∀ p ∈ cfxW.G, p.2 < cfxW.L :=
  ⟨rfl, fun i B h => by simp [cfxW] at h, fun p h => by simp [cfxW] at h⟩
noncomputable def cfxC : Cfg := { cfxW with conc := true }
theorem cfxC_base : cfxC.H0.length = cfxC.L ∧ (∀ (i : Nat) (B : Blk), cfxC.H0[i]? = some (some B) → B.under cfxC.L = true) ∧ ∀ p ∈ cfxC.G, p.2 < cfxC.L := cfxW_base
theorem relH_cfxC {ρ : Ren} {h : Heap} {w : World} : RelH cfx ρ h w ↔ RelH cfxC ρ h w :=
  ⟨fun r => ⟨r.cell, r.inj, r.sco, r.glob, r.big, r.base⟩, fun r => ⟨r.cell, r.inj, r.sco, r.glob, r.big, r.base⟩⟩
theorem retx_conc {f : FuncId} {args : List V} {v : V} (h : Ret cfxC f args v) : Ret cfx f args v := fun H lim hL hl ρ w R hu =>
  (h H lim hL hl ρ w (relH_cfxC.1 R) hu).mono fun e w' ⟨ρ', h1, h2, h3, h4, h5⟩ => ⟨ρ', h1, h2, relH_cfxC.2 h3, h4, h5⟩
end Go.Proofs.Ytcibaankajfhlaa
end
section
namespace Go.Proofs.Ytcibaankajfhlaa.E2
open Go Go.RowKit
section
variable {τ : Nat → Nat} {nl : Nat → Bool} {h : Heap} {m j : Nat} {l : Heap}
theorem ents_nil : Paid (entries τ nl h m j []) := trivial
theorem ents_none (k : Paid (entries τ nl h m (j + 1) l)) : Paid (entries τ nl h m j (none :: l)) := k
theorem ents_say {B : Blk} (h1 : nl j = false) (h2 : h[τ j]? = some (some (B.mv τ nl))) (h3 : B.under m = true) (h4 : B.nilOk nl = true) (k : Paid (entries τ nl h m (j + 1) l)) : Paid (entries τ nl h m j (some B :: l)) := by
  refine ⟨?_, h3, h4, k⟩
  rw [h1]; exact h2
theorem ents_raw {cs : List V} {ty : TypeId} {own : Own} (hr : cs.all isRawV = true) (h1 : nl j = false) (h2 : h[τ j]? = some (some (.cells cs ty own))) (k : Paid (entries τ nl h m (j + 1) l)) : Paid (entries τ nl h m j (some (.cells cs ty own) :: l)) := by
  refine ⟨?_, unders_raws _ _ hr, nilOks_raw _ _ hr, k⟩
  rw [h1]
  show h[τ j]? = some (some (.cells (mvs τ nl cs) ty own))
  rw [mvs_raw τ nl cs hr]
  exact h2
theorem ents_nilB {ty : TypeId} {sz : Nat} (h1 : nl j = true) (k : Paid (entries τ nl h m (j + 1) l)) : Paid (entries τ nl h m j (some (.cells [] ty (.row sz)) :: l)) := by
  refine ⟨?_, rfl, rfl, k⟩
  rw [h1]; exact trivial
theorem ents_nilC {cs : List V} (hc : cs = []) {ty : TypeId} {sz : Nat} (h1 : nl j = true) (k : Paid (entries τ nl h m (j + 1) l)) : Paid (entries τ nl h m j (some (.cells cs ty (.row sz)) :: l)) := by
  subst hc; exact ents_nilB h1 k
end
theorem no_base {c : Cfg} {H h : Heap} (hL : c.L = 0) : ∀ i, i < c.L → H[i]? = h[i]? := fun i hi => by omega
abbrev iV (n : Int) : V := .raw (.int .i64 n)
abbrev uV : V := .raw (.tuple #[])
theorem reshape2 {c : Cfg} {lim : Nat} (n0 : Nat) (hG : ∀ p ∈ c.G, p.2 < c.L) (hL : c.L = 0) (ks : List (Option Nat)) {t T : List V} {h H : Heap} (hq : (Nat.ble n0 h.length && Nat.beq H.length (n0 + ks.length) && Nat.ble lim n0 && Nat.beq T.length t.length && (anyOwn 0 T && T.all (·.slotOk H.length) && nilOks (nlOf n0 ks) T) && keysOk lim n0 h.length H ks) = true)
    (hT : mvs (tauOf n0 ks) (nlOf n0 ks) T = hideBy T t) (hE : Paid (entries (tauOf n0 ks) (nlOf n0 ks) h H.length 0 H))
    {ρ : Ren} {a : Act} {w : World} (RT : RelT ρ h.length t a) (RH : RelH c ρ h w) : ∃ ρ', RelT ρ' H.length T a ∧ RelH c ρ' H w ∧ Fr lim n0 ρ h w ρ' H w := by
  rw [Bool.and_eq_true, Bool.and_eq_true, Bool.and_eq_true, Bool.and_eq_true, Bool.and_eq_true] at hq
  obtain ⟨⟨⟨⟨⟨q1, q2⟩, q3⟩, q4⟩, q5⟩, q6⟩ := hq
  exact reshape hG ks (Nat.le_of_ble_eq_true q1) (Nat.eq_of_beq_eq_true q2) (Nat.le_of_ble_eq_true q3) (by omega) hT (Nat.eq_of_beq_eq_true q4) q5 (no_base hL) q6 hE RT RH
def ints (zs : List Int) : List V := zs.map fun n => .raw (.int .i64 n)
theorem ints_all (zs : List Int) : (ints zs).all isRawV = true := by
  rw [List.all_eq_true]
  intro x hx
  obtain ⟨v, _, rfl⟩ := List.mem_map.1 hx
  rfl
theorem ints_len (zs : List Int) : (ints zs).length = zs.length := by simp [ints]
theorem ints_take (zs : List Int) (n : Nat) : (ints zs).take n = ints (zs.take n) := by simp [ints, List.map_take]
theorem ints_one (zs : List Int) : oneCells (ints zs) = true := by
  induction zs with
  | nil => rfl
  | cons z zs ih => exact ih
theorem ints_app (xs ys : List Int) : ints xs ++ ints ys = ints (xs ++ ys) := by simp [ints]
def at' (zs : List Int) (k : Nat) : Int := zs.getD k 0
theorem raws_raw : ∀ l : List Value, raws (l.map .raw) = some l
  | [] => rfl
  | v :: l => by simp [raws, raws_raw l]
theorem load_one {c : Cfg} {zs : List Int} {T : TypeId} {off : Nat} (hT : pureRun c.P (isAgg T) = some false) (h : off < zs.length) : loadRow c T (ints zs) off = some (.raw (.int .i64 (at' zs off))) := by
  unfold loadRow
  rw [hT]
  dsimp only [ints]
  rw [List.getElem?_map, List.getElem?_eq_getElem h]
  simp [at', List.getD, List.getElem?_eq_getElem h]
theorem load_agg {c : Cfg} {zs : List Int} {T : TypeId} {off : Nat} (n : Nat) (hT : pureRun c.P (isAgg T) = some true) (hn : pureRun c.P (Go.sizeOf T) = some n) (h0 : 0 < n) (h : off + n ≤ zs.length) : loadRow c T (ints zs) off = some (.raw (.agg ((List.range n).map fun j => Value.int .i64 (at' zs (off + j))).toArray)) := by
  unfold loadRow
  rw [hT, hn]
  dsimp only [ints]
  simp only [List.length_map, h, h0, and_self, if_true]
  have e : List.take n (List.drop off (List.map (fun n => V.raw (Value.int .i64 n)) zs)) = ((List.range n).map fun j => Value.int .i64 (at' zs (off + j))).map V.raw := by
    apply List.ext_getElem?
    intro j
    rw [List.getElem?_take, List.getElem?_drop, List.getElem?_map, List.getElem?_map, List.getElem?_map]
    by_cases hj : j < n
    · rw [if_pos hj, List.getElem?_range hj, List.getElem?_eq_getElem (by omega : off + j < zs.length)]
      simp [at', List.getD, List.getElem?_eq_getElem (by omega : off + j < zs.length)]
    · rw [if_neg hj, List.getElem?_eq_none (by simp; omega : (List.range n).length ≤ j)]
      rfl
  rw [e]
  unfold mkAgg
  rw [raws_raw]
abbrev rowV (zs : List Int) (off n : Nat) : V := .raw (.agg ((List.range n).map fun j => Value.int .i64 (at' zs (off + j))).toArray)
def putI (zs : List Int) (k : Nat) (xs : List Int) : List Int := zs.take k ++ xs ++ zs.drop (k + xs.length)
theorem putI_length (zs : List Int) (k : Nat) (xs : List Int) : (putI zs k xs).length = min k zs.length + (xs.length + (zs.length - (k + xs.length))) := by
  simp [putI]
theorem putAt_ints (zs : List Int) (k : Nat) (xs : List Int) (h : k + xs.length ≤ zs.length) : putAt (ints zs) k (ints xs) = ints (putI zs k xs) := by
  unfold putAt putI ints
  simp [List.map_take, List.map_drop]
theorem store_ints {c : Cfg} {names : Nat} {T : TypeId} {zs : List Int} {off : Nat} {x : V} (xs : List Int) (hx : cellsV x = some (ints xs)) (hn : pureRun c.P (Go.sizeOf T) = some xs.length) (h0 : 0 < xs.length) (h : off + xs.length ≤ zs.length) : storeRow c names T (ints zs) off x = some (ints (putI zs off xs)) := by
  unfold storeRow
  rw [hx, hn]
  have e1 : (ints xs).length = xs.length := ints_len xs
  have e2 : (ints zs).length = zs.length := ints_len zs
  have e3 : unders names (ints xs) = true := unders_raws names _ (ints_all xs)
  simp only [e1, e2, h0, h, ints_one, e3, and_self, if_true]
  rw [putAt_ints zs off xs h]
def zeroI : Value → Bool
  | .int .i64 n => n == 0
  | _ => false
theorem zeroI_ok {v : Value} (h : zeroI v = true) : v = .int .i64 0 := by
  unfold zeroI at h
  split at h
  · simp at h; rw [h]
  · cases h
theorem mk0_ints (z : Array Value) (hz : z.toList.all zeroI = true) (h0 : 0 < z.size) (n : Nat) : mk0 z n = ints (List.replicate n 0) := by
  unfold mk0 ints
  apply List.ext_getElem?
  intro i
  rw [List.getElem?_map, List.getElem?_map]
  by_cases hi : i < n
  · have hm : i % z.size < z.size := Nat.mod_lt _ h0
    have e : z[i % z.size] = .int .i64 0 := zeroI_ok (List.all_eq_true.1 hz _ (Array.mem_toList_iff.2 (Array.getElem_mem hm)))
    rw [List.getElem?_range hi, List.getElem?_replicate, if_pos hi]
    simp only [Option.map_some]
    rw [getElem!_pos z _ hm, e]
  · rw [List.getElem?_eq_none (by simpa using hi), List.getElem?_eq_none (by simpa using hi)]
    rfl
theorem ones_take (zs : List Int) (n : Nat) : oneCells ((ints zs).take n) = true := by rw [ints_take]; exact ints_one _
theorem app_lit (zs : List Int) (xs : List Int) {l : List V} (h : l = ints xs) : ints zs ++ l = ints (zs ++ xs) := by rw [h, ints_app]
theorem app_row (zs xs : List Int) (n : Nat) : ints zs ++ (ints xs).take n = ints (zs ++ xs.take n) := by rw [ints_take, ints_app]
theorem app_row0 (xs : List Int) (n : Nat) : [] ++ (ints xs).take n = ints (xs.take n) := by rw [List.nil_append, ints_take]
theorem row_row0 (xs : List Int) (n : Nat) : (ints xs).take n = ints (xs.take n) := ints_take xs n
end Go.Proofs.Ytcibaankajfhlaa.E2
end
section
namespace Go.Proofs.Ytcibaankajfhlaa.E2
open Go Go.RowKit
section
variable {c : Cfg} {lim n0 : Nat} {rnd : Option Nat} {x : Code}
theorem rounds_from (hb : ∀ b, rnd = some b → b < n0) (T : Nat → List V) (H : Nat → Heap) (n : Nat) {e : Ex} {Te : List V} {He : Heap} (he : e ≠ .normal)
    (hstep : ∀ i, i < n → Runs c lim n0 rnd x (T i) (H i) .normal (T (i + 1)) (H (i + 1))) (hend : Runs c lim n0 rnd x (T n) (H n) e Te He) : ∀ k i, i + k = n → ∃ m, Rounds c lim n0 rnd x m (T i) (H i) e Te He := by
  intro k
  induction k with
  | zero =>
    intro i hi
    have : i = n := by omega
    subst this
    exact ⟨1, rounds_done hend he⟩
  | succ k ih =>
    intro i hi
    obtain ⟨m, hm⟩ := ih (i + 1) (by omega)
    exact ⟨m + 1, rounds_more hb (hstep i (by omega)) hm⟩
theorem upto (hb : ∀ b, rnd = some b → b < n0) (T : Nat → List V) (H : Nat → Heap) (n : Nat) {e : Ex} {Te : List V} {He : Heap} (he : e ≠ .normal)
    (hstep : ∀ i, i < n → Runs c lim n0 rnd x (T i) (H i) .normal (T (i + 1)) (H (i + 1))) (hend : Runs c lim n0 rnd x (T n) (H n) e Te He) : Runs c lim n0 rnd (.loop x) (T 0) (H 0) e Te He := by
  obtain ⟨m, hm⟩ := rounds_from hb T H n he hstep hend n 0 (by omega)
  exact runs_loop hm
theorem upto_find (hb : ∀ b, rnd = some b → b < n0) (good : Nat → Bool) (T : Nat → List V) (H : Nat → Heap) (n : Nat) {e e1 : Ex} {Te : List V} {He : Heap} (T1 : Nat → List V) (H1 : Nat → Heap) (he : e ≠ .normal) (he1 : e1 ≠ .normal)
    (hstep : ∀ i, i < n → good i = true → Runs c lim n0 rnd x (T i) (H i) .normal (T (i + 1)) (H (i + 1))) (hbad : ∀ i, i < n → good i = false → Runs c lim n0 rnd x (T i) (H i) e1 (T1 i) (H1 i)) (hend : Runs c lim n0 rnd x (T n) (H n) e Te He) :
    ((List.range n).all good = true ∧ Runs c lim n0 rnd (.loop x) (T 0) (H 0) e Te He) ∨ ((List.range n).all good = false ∧ ∃ i, i < n ∧ good i = false ∧ (∀ j, j < i → good j = true) ∧ Runs c lim n0 rnd (.loop x) (T 0) (H 0) e1 (T1 i) (H1 i)) := by
  cases h : (List.range n).all good with
  | true =>
    left
    rw [List.all_eq_true] at h
    exact ⟨rfl, upto hb T H n he (fun i hi => hstep i hi (h i (List.mem_range.2 hi))) hend⟩
  | false =>
    right
    refine ⟨rfl, ?_⟩
    have : ∃ i, i < n ∧ good i = false ∧ ∀ j, j < i → good j = true := by
      clear hstep hbad hend
      induction n with
      | zero => simp at h
      | succ n ih =>
        rw [List.range_succ, List.all_append] at h
        cases h2 : (List.range n).all good with
        | false =>
          obtain ⟨i, a, b, d⟩ := ih h2
          exact ⟨i, by omega, b, d⟩
        | true =>
          rw [h2] at h
          simp at h
          exact ⟨n, by omega, h, fun j hj => List.all_eq_true.1 h2 j (List.mem_range.2 hj)⟩
    obtain ⟨i, hi, hbi, hlt⟩ := this
    refine ⟨i, hi, hbi, hlt, ?_⟩
    exact upto hb T H i he1 (fun j hj => hstep j (by omega) (hlt j hj)) (hbad i hi hbi)
end
section
variable {c : Cfg} {lim n0 : Nat} {rnd : Option Nat} {x : Code}
end
end Go.Proofs.Ytcibaankajfhlaa.E2
end
