/-
  The reckoner is right: regions, bodies, functions, loops.
-/
import Derived.Test.YtlgabdamgalngaaEngA
import Derived.LoopN
import Derived.IntWalk
set_option linter.unusedVariables false
set_option linter.unusedSimpArgs false

/-
  Bodies and functions by the reckoner.
-/
namespace Go.Proofs.Ytlgabdamgalngaa.E
open Go Go.RowKit

/-- From (t, h) the code comes to (t', h') by exit e. -/
def Runs (c : Cfg) (lim : Nat) (code : Code) (t : List V) (h : Heap) (e : Ex) (t' : List V) (h' : Heap) : Prop :=
  ∀ ρ a w, RelT ρ h.length t a → RelH c ρ h w → code.wp c.P (fun x a' w' => x = e.to ∧ ∃ ρ', a'.defers = a.defers ∧ RelT ρ' h'.length t' a' ∧ RelH c ρ' h' w' ∧ Fr lim ρ h w ρ' h' w') a w
/-- Called so, the function returns v and leaves the heap h'. -/
def Meets (c : Cfg) (lim : Nat) (f : FuncId) (args : List V) (h : Heap) (v : V) (h' : Heap) : Prop :=
  ∀ ρ w, RelH c ρ h w → unders h.length args = true →
    Calls c.P f (concs ρ args).toArray w fun e w' => ∃ ρ', ρ'.unk = ρ.unk ∧ e = .returned (v.conc ρ') ∧ RelH c ρ' h' w' ∧ Fr lim ρ h w ρ' h' w' ∧ v.under h'.length = true

/-- Whatever the heap, the function returns v and leaves the heap as it was. -/
def Ret (c : Cfg) (f : FuncId) (args : List V) (v : V) : Prop := ∀ h lim, c.L ≤ lim → Meets c lim f args h v h

structure COut where
  e : Ex
  t : List V
  h : Heap
  ans : List Ans
  cons : List Prop
def iter (body : List V → Heap → List Ans → Option COut) : Nat → List V → Heap → List Ans → Option COut
  | 0, _, _, _ => none
  | n + 1, t, h, ans => match body t h ans with
    | none => none
    | some r => match r.e with
      | .normal => match iter body n r.t r.h r.ans with
        | none => none
        | some q => some { q with cons := r.cons ++ q.cons }
      | _ => some r
/-- A flag that is decided. -/
def litOf (t : List V) : Operand → Option Bool
  | .tmp s => match t[s]? with
    | some (.lit b) => some b
    | _ => none
  | _ => none
def evCode (c : Cfg) (cf : CallF) (lim : Nat) : Code → List V → Heap → List Ans → Option COut
  | .skip, t, h, ans => some ⟨.normal, t, h, ans, []⟩
  | .label _, t, h, ans => some ⟨.normal, t, h, ans, []⟩
  | .exit id, t, h, ans => some ⟨.exit id, t, h, ans, []⟩
  | .ret, t, h, ans => some ⟨.ret, t, h, ans, []⟩
  | .region _ ops draws, t, h, ans => match (match draws with
      | true => evDrawn c cf lim ops t h ans
      | false => evOps c cf lim ops ops.toList t h ans) with
    | some r => some ⟨.normal, r.t, r.h, r.ans, r.cons⟩
    | none => none
  | .seq x y, t, h, ans => match evCode c cf lim x t h ans with
    | none => none
    | some r => match r.e with
      | .normal => match evCode c cf lim y r.t r.h r.ans with
        | none => none
        | some q => some { q with cons := r.cons ++ q.cons }
      | _ => some r
  | .cond x y z, t, h, ans => match litOf t x with
    | some true => evCode c cf lim y t h ans
    | some false => evCode c cf lim z t h ans
    | none => match opnd c t x with
    | some (.raw (.bool b)) => match ans with
      | .br q :: ans' => match (match q with
          | true => evCode c cf lim y t h ans'
          | false => evCode c cf lim z t h ans') with
        | none => none
        | some r => some { r with cons := (b = q) :: r.cons }
      | _ => none
    | _ => none
  | .block id x, t, h, ans => match evCode c cf lim x t h ans with
    | none => none
    | some r => some { r with e := match r.e with
        | .exit i => if i = id then .normal else .exit i
        | e => e }
  | .scope x, t, h, ans => evCode c cf lim x t h ans
  | .loop x, t, h, ans => match ans with
    | .loop e t' h' :: ans' => some ⟨e, t', h', ans', [Runs c lim (.loop x) t h e t' h']⟩
    | ans => iter (evCode c cf lim x) 200 t h ans
  | _, _, _, _ => none

def resultsV (c : Cfg) (t : List V) (h : Heap) : List ResultVar → Option (List V)
  | [] => some []
  | .tmp s :: l => match opnd c t (.tmp s), resultsV c t h l with
    | some v, some vs => some (v :: vs)
    | _, _ => none
  | .cell s T :: l => match opnd c t (.tmp s) with
    | some (.ptr b off) => match loadV c h T b off, resultsV c t h l with
      | some v, some vs => some (v :: vs)
      | _, _ => none
    | _ => none
def oneOf : List V → V
  | [v] => v
  | l => mkTup l
def evFunc (c : Cfg) : Nat → CallF
  | 0, _, _, _, _, _ => none
  | n + 1, f, args, h, lim, ans => match ans with
    | .ret v :: ans' => some ⟨v, h, ans', [Ret c f args v]⟩
    | .reth v h' :: ans' => some ⟨v, h', ans', [Meets c lim f args h v h']⟩
    | .go :: ans' => match c.P.funcs[f]? with
      | none => none
      | some fn => match fn.body with
        | none => none
        | some code => match evCode c (evFunc c n) lim code (args ++ List.replicate (fn.ntmps - args.length) (.raw undef)) h ans' with
          | none => none
          | some r => match r.e with
            | .exit _ => none
            | _ => match resultsV c r.t r.h fn.results.toList with
              | none => none
              | some vs => some ⟨oneOf vs, r.h, r.ans, r.cons⟩
    | _ => none

/-! Regions in the text's order. -/
section
variable {c : Cfg} {lim : Nat}

theorem relT_put {ρ ρ' : Ren} {n n' : Nat} {t : List V} {a : Act} (RT : RelT ρ n t a) (hag : ∀ i, i < n → ρ'.blk i = ρ.blk i) (hu : ρ'.unk = ρ.unk) (hn : n ≤ n') {v : V} (hv : v.slotOk n' = true) (d : Option Nat) : RelT ρ' n' (putT t d v) (a.put d (v.conc ρ')) := by
  have h0 : concs ρ' t = concs ρ t := by
    rw [concs_map, concs_map]
    exact List.map_congr_left fun x hx => V.slot_agree hag hu x (RT.sco x hx)
  cases d with
  | none => exact ⟨by simp only [putT, Act.put]; rw [RT.tmps, h0], fun x hx => V.slotOk_mono hn x (RT.sco x hx)⟩
  | some d =>
    refine ⟨?_, fun x hx => ?_⟩
    · simp only [putT, Act.put]
      rw [RT.tmps, concs_set, h0]
      simp
    · simp only [putT] at hx
      rcases List.mem_or_eq_of_mem_set hx with h1 | rfl
      · exact V.slotOk_mono hn x (RT.sco x h1)
      · exact hv

theorem evGuard_sound {ρ : Ren} {n : Nat} {ops : Array Oper} {t : List V} {a : Act} {ans : List Ans} {o : Oper} {g : GOut} (he : evGuard ops t ans o = some g) (hc : ∀ p ∈ g.cons, p) (RT : RelT ρ n t a) :
    Region.wanted o (yielded ops a.tmps) = g.want ∧ RelT ρ n g.t a := by
  unfold evGuard at he
  split at he
  · rename_i hg
    simp only [Option.some.injEq] at he
    subst he
    exact ⟨by simp [Region.wanted, hg], RT⟩
  · rename_i j want hg
    split at he
    · rename_i d hd
      split at he
      · rename_i b hb
        simp only [Option.some.injEq] at he
        subst he
        have hy : a.tmps[d]? = some (.bool b) := by rw [RT.tmps]; simp [concs_get, hb, V.conc]
        refine ⟨?_, RT⟩
        simp [Region.wanted, hg, yielded, hd, hy]
      · rename_i b hb
        split at he
        · rename_i q ans'
          simp only [Option.some.injEq] at he
          subst he
          have hbq : b = q := hc _ (List.mem_singleton.2 rfl)
          subst hbq
          have hset : concs ρ (t.set d (.lit b)) = concs ρ t := by
            obtain ⟨hlt, hx⟩ := List.getElem?_eq_some_iff.1 hb
            rw [concs_set]
            have : (concs ρ t)[d]'(by rw [concs_length]; exact hlt) = .bool b := by simp [concs_map, hx, V.conc]
            simp only [V.conc]
            rw [← this]; exact List.set_getElem_self _
          have hy : a.tmps[d]? = some (.bool b) := by rw [RT.tmps]; simp [concs_get, hb, V.conc]
          refine ⟨?_, by rw [hset]; exact RT.tmps, fun x hx => ?_⟩
          rotate_left
          · rcases List.mem_or_eq_of_mem_set hx with h1 | rfl
            · exact RT.sco x h1
            · rfl
          simp [Region.wanted, hg, yielded, hd, hy]
        · cases he
      · rename_i vs hb
        simp only [Option.some.injEq] at he
        subst he
        have hy : a.tmps[d]? = some (.tuple vs) := by rw [RT.tmps]; simp [concs_get, hb, V.conc]
        refine ⟨?_, RT⟩
        simp [Region.wanted, hg, yielded, hd, hy]
      · cases he
    · cases he

theorem evOps_sound {cf : CallF} (hcf : CallOk c cf) (hfn : ∀ f, c.fns f = true → Callable c.P f) (hL : c.L ≤ lim) {ops : Array Oper} {Q : Exit → Act → World → Prop} :
    ∀ (l : List Oper) (t : List V) (h : Heap) (ans : List Ans) (r : ROut) (ρ : Ren) (a : Act) (w : World), evOps c cf lim ops l t h ans = some r → (∀ p ∈ r.cons, p) → RelH c ρ h w → RelT ρ h.length t a →
      (∀ ρ' a' w', ρ'.unk = ρ.unk → a'.defers = a.defers → RelT ρ' r.h.length r.t a' → RelH c ρ' r.h w' → Fr lim ρ h w ρ' r.h w' → Q .normal a' w') → wpList c.P ops Q l a w
  | [], t, h, ans, r, ρ, a, w, he, hc, RH, RT, hQ => by
    simp only [evOps, Option.some.injEq] at he
    subst he
    exact hQ ρ a w rfl rfl RT RH (Fr.refl _ _ _ _)
  | o :: rest, t, h, ans, r, ρ, a, w, he, hc, RH, RT, hQ => by
    simp only [evOps] at he
    split at he
    · cases he
    · rename_i g hg
      split at he
      · rename_i hw
        split at he
        · cases he
        · rename_i r1 hr1
          split at he
          · cases he
          · rename_i q hq
            simp only [Option.some.injEq] at he
            subst he
            obtain ⟨h1, RT1⟩ := evGuard_sound hg (fun p hp => hc p (List.mem_append_left _ hp)) RT
            refine wpList_step fun K hK => ?_
            rw [h1, hw, if_pos rfl]
            refine evOp_sound hcf hfn hr1 (fun p hp => hc p (List.mem_append_right _ (List.mem_append_left _ hp))) RH RT1 hL fun ρ1 w1 hu1 RH1 F1 hv1 => hK _ _ ?_
            have RT2 := relT_put RT1 F1.ren hu1 F1.len (V.slot_of_under _ hv1) o.dst
            refine evOps_sound hcf hfn hL rest _ _ _ q ρ1 _ w1 hq (fun p hp => hc p (List.mem_append_right _ (List.mem_append_right _ hp))) RH1 RT2 fun ρ' a' w' hu' hd' RT' RH' F' => ?_
            exact hQ ρ' a' w' (hu'.trans hu1) (hd'.trans R.put_defers) RT' RH' (F1.trans F')
      · rename_i hw
        split at he
        · cases he
        · rename_i q hq
          simp only [Option.some.injEq] at he
          subst he
          obtain ⟨h1, RT1⟩ := evGuard_sound hg (fun p hp => hc p (List.mem_append_left _ hp)) RT
          refine wpList_step fun K hK => ?_
          rw [h1, if_neg hw]
          refine hK _ _ ?_
          have RT2 := relT_put (ρ' := ρ) RT1 (fun _ _ => rfl) rfl (Nat.le_refl _) (v := .raw undef) rfl o.dst
          refine evOps_sound hcf hfn hL rest _ _ _ q ρ _ w hq (fun p hp => hc p (List.mem_append_right _ hp)) RH RT2 fun ρ' a' w' hu' hd' RT' RH' F' => ?_
          exact hQ ρ' a' w' hu' (hd'.trans R.put_defers) RT' RH' F'
end
end Go.Proofs.Ytlgabdamgalngaa.E

/-
  The reckoner is right: a region that draws its order.
-/
namespace Go.Proofs.Ytlgabdamgalngaa.E
open Go Go.RowKit

/-! Lists of items. -/
def newPos : List AItem → Nat → Nat
  | [], _ => 0
  | .new _ _ :: _, 0 => 0
  | .new _ _ :: l, m + 1 => newPos l m + 1
  | .val _ :: l, m => newPos l m + 1
  | .put _ _ :: l, m => newPos l m + 1
  | .old _ _ _ :: l, m => newPos l m + 1
  | .skip :: l, m => newPos l m + 1
theorem newPos_get : ∀ (l : List AItem) (m : Nat), m < cntNew l → ∃ T z, l[newPos l m]? = some (.new T z)
  | [], m, h => by simp [cntNew] at h
  | .new T z :: l, 0, h => ⟨T, z, rfl⟩
  | .new T z :: l, m + 1, h => by
    obtain ⟨T', z', h1⟩ := newPos_get l m (by simp only [cntNew] at h; omega)
    exact ⟨T', z', by simpa [newPos] using h1⟩
  | .val _ :: l, m, h => by
    obtain ⟨T', z', h1⟩ := newPos_get l m h
    exact ⟨T', z', by simpa [newPos] using h1⟩
  | .put _ _ :: l, m, h => by
    obtain ⟨T', z', h1⟩ := newPos_get l m h
    exact ⟨T', z', by simpa [newPos] using h1⟩
  | .old _ _ _ :: l, m, h => by
    obtain ⟨T', z', h1⟩ := newPos_get l m h
    exact ⟨T', z', by simpa [newPos] using h1⟩
  | .skip :: l, m, h => by
    obtain ⟨T', z', h1⟩ := newPos_get l m h
    exact ⟨T', z', by simpa [newPos] using h1⟩
theorem newPos_inj : ∀ (l : List AItem) (m m' : Nat), m < cntNew l → m' < cntNew l → newPos l m = newPos l m' → m = m'
  | [], m, m', h, _, _ => by simp [cntNew] at h
  | .new T z :: l, 0, 0, _, _, _ => rfl
  | .new T z :: l, 0, m' + 1, _, _, e => by simp [newPos] at e
  | .new T z :: l, m + 1, 0, _, _, e => by simp [newPos] at e
  | .new T z :: l, m + 1, m' + 1, h, h', e => by
    simp only [newPos, Nat.add_right_cancel_iff] at e
    simp only [cntNew] at h h'
    rw [newPos_inj l m m' (by omega) (by omega) e]
  | .val _ :: l, m, m', h, h', e => newPos_inj l m m' h h' (by simpa [newPos] using e)
  | .put _ _ :: l, m, m', h, h', e => newPos_inj l m m' h h' (by simpa [newPos] using e)
  | .old _ _ _ :: l, m, m', h, h', e => newPos_inj l m m' h h' (by simpa [newPos] using e)
  | .skip :: l, m, m', h, h', e => newPos_inj l m m' h h' (by simpa [newPos] using e)
theorem newPos_take : ∀ (l : List AItem) (k : Nat) (T : TypeId) (z : List V), l[k]? = some (.new T z) → newPos l (cntNew (l.take k)) = k ∧ cntNew (l.take k) < cntNew l
  | [], k, T, z, h => by simp at h
  | x :: l, 0, T, z, h => by
    simp only [List.getElem?_cons_zero, Option.some.injEq] at h
    subst h
    simp [newPos, cntNew]
  | x :: l, k + 1, T, z, h => by
    have ⟨h1, h2⟩ := newPos_take l k T z (by simpa using h)
    cases x <;> simp only [List.take_succ_cons, cntNew, newPos] <;> omega
theorem newBlks_len (its : List AItem) : ∀ (l : List AItem) (i : Nat), (newBlks its i l).length = cntNew l
  | [], i => rfl
  | .new T z :: l, i => by simp [newBlks, cntNew, newBlks_len its l]
  | .val _ :: l, i => by simp [newBlks, cntNew, newBlks_len its l]
  | .put _ _ :: l, i => by simp [newBlks, cntNew, newBlks_len its l]
  | .old _ _ _ :: l, i => by simp [newBlks, cntNew, newBlks_len its l]
  | .skip :: l, i => by simp [newBlks, cntNew, newBlks_len its l]
theorem newBlks_get (its : List AItem) : ∀ (l : List AItem) (i m : Nat) (B : Blk), (newBlks its i l)[m]? = some (some B) → (∃ z, l[newPos l m]? = some (.new B.ty z)) ∧ putOf its (i + newPos l m) = some B.cells
  | [], i, m, B, h => by simp [newBlks] at h
  | .new T z :: l, i, 0, B, h => by
    simp only [newBlks, List.getElem?_cons_zero, Option.some.injEq, Option.map_eq_some_iff] at h
    obtain ⟨cs, h1, rfl⟩ := h
    exact ⟨⟨z, rfl⟩, h1⟩
  | .new T z :: l, i, m + 1, B, h => by
    have ⟨⟨z', h1⟩, h2⟩ := newBlks_get its l (i + 1) m B (by simpa [newBlks] using h)
    exact ⟨⟨z', by simpa [newPos] using h1⟩, by simp only [newPos]; rw [← h2]; congr 1; omega⟩
  | .val _ :: l, i, m, B, h => by
    have ⟨⟨z', h1⟩, h2⟩ := newBlks_get its l (i + 1) m B (by simpa [newBlks] using h)
    exact ⟨⟨z', by simpa [newPos] using h1⟩, by simp only [newPos]; rw [← h2]; congr 1; omega⟩
  | .put _ _ :: l, i, m, B, h => by
    have ⟨⟨z', h1⟩, h2⟩ := newBlks_get its l (i + 1) m B (by simpa [newBlks] using h)
    exact ⟨⟨z', by simpa [newPos] using h1⟩, by simp only [newPos]; rw [← h2]; congr 1; omega⟩
  | .old _ _ _ :: l, i, m, B, h => by
    have ⟨⟨z', h1⟩, h2⟩ := newBlks_get its l (i + 1) m B (by simpa [newBlks] using h)
    exact ⟨⟨z', by simpa [newPos] using h1⟩, by simp only [newPos]; rw [← h2]; congr 1; omega⟩
  | .skip :: l, i, m, B, h => by
    have ⟨⟨z', h1⟩, h2⟩ := newBlks_get its l (i + 1) m B (by simpa [newBlks] using h)
    exact ⟨⟨z', by simpa [newPos] using h1⟩, by simp only [newPos]; rw [← h2]; congr 1; omega⟩
theorem putOf_get {its : List AItem} {k : Nat} {cs : List V} (h : putOf its k = some cs) : ∃ i : Nat, its[i]? = some (AItem.put k cs) := by
  unfold putOf at h
  obtain ⟨it, hm, h1⟩ := List.exists_of_findSome?_eq_some h
  cases it with
  | put k' cs' =>
    simp only at h1
    split at h1
    · rename_i e
      simp only [Option.some.injEq] at h1
      subst h1; subst e
      exact List.mem_iff_getElem?.1 hm
    · cases h1
  | _ => cases h1
theorem applyOlds_len : ∀ (l : List AItem) (h : Heap), (applyOlds l h).length = h.length
  | [], h => rfl
  | .old b T cs :: l, h => by simp [applyOlds, applyOlds_len l]
  | .new _ _ :: l, h => by simp [applyOlds, applyOlds_len l]
  | .val _ :: l, h => by simp [applyOlds, applyOlds_len l]
  | .put _ _ :: l, h => by simp [applyOlds, applyOlds_len l]
  | .skip :: l, h => by simp [applyOlds, applyOlds_len l]
theorem applyOlds_get : ∀ (l : List AItem) (h : Heap) (i : Nat) (B : Blk), (applyOlds l h)[i]? = some (some B) → (∃ j : Nat, l[j]? = some (AItem.old i B.ty B.cells)) ∨ (h[i]? = some (some B) ∧ ∀ (j : Nat) (T : TypeId) (cs : List V), l[j]? ≠ some (.old i T cs))
  | [], h, i, B, hi => .inr ⟨hi, by simp⟩
  | .old b T cs :: l, h, i, B, hi => by
    rcases applyOlds_get l (h.set b (some ⟨cs, T⟩)) i B hi with ⟨j, hj⟩ | ⟨h1, h2⟩
    · exact .inl ⟨j + 1, by simpa using hj⟩
    · rcases Nat.decEq i b with hne | rfl
      · rw [List.getElem?_set_ne (Ne.symm hne)] at h1
        refine .inr ⟨h1, fun j T' cs' hj => ?_⟩
        cases j with
        | zero => simp only [List.getElem?_cons_zero, Option.some.injEq, AItem.old.injEq] at hj; exact hne hj.1.symm
        | succ j => exact h2 j T' cs' (by simpa using hj)
      · have hl : i < h.length := by
          rcases Nat.lt_or_ge i h.length with h3 | h3
          · exact h3
          · rw [List.getElem?_eq_none (by simpa using h3)] at h1; cases h1
        rw [List.getElem?_set_self hl] at h1
        simp only [Option.some.injEq] at h1
        subst h1
        exact .inl ⟨0, rfl⟩
  | .new _ _ :: l, h, i, B, hi => by
    rcases applyOlds_get l h i B hi with ⟨j, hj⟩ | ⟨h1, h2⟩
    · exact .inl ⟨j + 1, by simpa using hj⟩
    · refine .inr ⟨h1, fun j T' cs' hj => ?_⟩
      cases j with
      | zero => simp at hj
      | succ j => exact h2 j T' cs' (by simpa using hj)
  | .val _ :: l, h, i, B, hi => by
    rcases applyOlds_get l h i B hi with ⟨j, hj⟩ | ⟨h1, h2⟩
    · exact .inl ⟨j + 1, by simpa using hj⟩
    · refine .inr ⟨h1, fun j T' cs' hj => ?_⟩
      cases j with
      | zero => simp at hj
      | succ j => exact h2 j T' cs' (by simpa using hj)
  | .put _ _ :: l, h, i, B, hi => by
    rcases applyOlds_get l h i B hi with ⟨j, hj⟩ | ⟨h1, h2⟩
    · exact .inl ⟨j + 1, by simpa using hj⟩
    · refine .inr ⟨h1, fun j T' cs' hj => ?_⟩
      cases j with
      | zero => simp at hj
      | succ j => exact h2 j T' cs' (by simpa using hj)
  | .skip :: l, h, i, B, hi => by
    rcases applyOlds_get l h i B hi with ⟨j, hj⟩ | ⟨h1, h2⟩
    · exact .inl ⟨j + 1, by simpa using hj⟩
    · refine .inr ⟨h1, fun j T' cs' hj => ?_⟩
      cases j with
      | zero => simp at hj
      | succ j => exact h2 j T' cs' (by simpa using hj)
theorem applyOlds_low : ∀ (l : List AItem) (i : Nat), (∀ b ∈ oldNames l, i ≠ b) → ∀ h : Heap, (applyOlds l h)[i]? = h[i]?
  | [], i, _, h => rfl
  | .old b T cs :: l, i, hn, h => by
    simp only [applyOlds]
    rw [applyOlds_low l i (fun b hb => hn b (by simp [oldNames, hb])), List.getElem?_set_ne (Ne.symm (hn b (by simp [oldNames])))]
  | .new _ _ :: l, i, hn, h => applyOlds_low l i hn h
  | .val _ :: l, i, hn, h => applyOlds_low l i hn h
  | .put _ _ :: l, i, hn, h => applyOlds_low l i hn h
  | .skip :: l, i, hn, h => applyOlds_low l i hn h
theorem oldNames_mem : ∀ (l : List AItem) (j b : Nat) (T : TypeId) (cs : List V), l[j]? = some (.old b T cs) → b ∈ oldNames l
  | [], j, b, T, cs, h => by simp at h
  | x :: l, 0, b, T, cs, h => by
    simp only [List.getElem?_cons_zero, Option.some.injEq] at h
    subst h
    simp [oldNames]
  | x :: l, j + 1, b, T, cs, h => by
    have := oldNames_mem l j b T cs (by simpa using h)
    cases x <;> simp [oldNames, this]
theorem nodupB_iff : ∀ l : List Nat, nodupB l = true → l.Nodup
  | [], _ => List.nodup_nil
  | x :: l, h => by
    simp only [nodupB, Bool.and_eq_true, Bool.not_eq_true'] at h
    exact List.nodup_cons.2 ⟨by simpa using h.1, nodupB_iff l h.2⟩
theorem olds_to (ρ : Ren) : ∀ l : List AItem, R.olds (l.map (AItem.to ρ)) = (oldNames l).map ρ.blk
  | [] => rfl
  | .old b T cs :: l => by simp [R.olds, oldNames, AItem.to, olds_to ρ l]
  | .new _ _ :: l => by simp [R.olds, oldNames, AItem.to, olds_to ρ l]
  | .val _ :: l => by simp [R.olds, oldNames, AItem.to, olds_to ρ l]
  | .put _ _ :: l => by simp [R.olds, oldNames, AItem.to, olds_to ρ l]
  | .skip :: l => by simp [R.olds, oldNames, AItem.to, olds_to ρ l]
theorem nodup_map {f : Nat → Nat} : ∀ l : List Nat, (∀ x ∈ l, ∀ y ∈ l, f x = f y → x = y) → l.Nodup → (l.map f).Nodup
  | [], _, _ => List.nodup_nil
  | x :: l, h, hn => by
    rw [List.nodup_cons] at hn
    rw [List.map_cons, List.nodup_cons]
    refine ⟨fun hm => ?_, nodup_map l (fun a ha b hb => h a (List.mem_cons_of_mem _ ha) b (List.mem_cons_of_mem _ hb)) hn.2⟩
    obtain ⟨y, hy, e⟩ := List.mem_map.1 hm
    rw [h y (List.mem_cons_of_mem _ hy) x List.mem_cons_self e] at hy
    exact hn.1 hy

/-! The shape does not look into values. -/
def normI : R.Item → R.Item
  | .val _ => .val undef
  | .new _ _ => .new 0 #[]
  | .put k _ => .put k #[]
  | .old _ _ _ => .old 0 0 #[]
  | .skip => .skip
theorem shape_norm (ops : Array Oper) (its : List R.Item) (n : Nat) : R.shape ops (its.map normI) n = R.shape ops its n := by
  unfold R.shape
  simp only [List.length_map, List.getElem?_map]
  congr 1
  congr 1
  funext i
  cases ops[i]? with
  | none => cases its[i]? <;> rfl
  | some o =>
    cases its[i]? with
    | none => rfl
    | some it =>
      simp only [Option.map_some]
      congr 1
      · cases it with
        | put k cs =>
          simp only [normI]
          cases its[k]? with
          | none => rfl
          | some jt => cases jt <;> rfl
        | _ => rfl
      · congr 1
        funext j
        cases ops[j]? with
        | none => rfl
        | some p =>
          cases its[j]? with
          | none => rfl
          | some jt => cases it <;> cases jt <;> rfl
theorem norm_to (ρ ρ' : Ren) (it : AItem) : normI (it.to ρ) = normI (it.to ρ') := by cases it <;> rfl
theorem shape_to {ops : Array Oper} {its : List AItem} {n : Nat} (ρ ρ' : Ren) (h : R.shape ops (its.map (AItem.to ρ')) n = true) : R.shape ops (its.map (AItem.to ρ)) n = true := by
  rw [← shape_norm, List.map_map] at h ⊢
  rw [← h]
  congr 1
  exact List.map_congr_left fun x _ => norm_to ρ ρ' x
end Go.Proofs.Ytlgabdamgalngaa.E

/-
  The reckoner is right: a region that draws its order, its steps.
-/
namespace Go.Proofs.Ytlgabdamgalngaa.E
open Go Go.RowKit

/-- The slots ahead of operation k. -/
def tAt (ops : Array Oper) (its : List AItem) (n0 : Nat) (t0 : List V) : Nat → List V
  | 0 => t0
  | k + 1 => match ops[k]?, its[k]? with
    | some o, some it => putT (tAt ops its n0 t0 k) o.dst (it.slot n0 (its.take k))
    | _, _ => tAt ops its n0 t0 k

theorem evDr_spec {c : Cfg} {cf : CallF} {lim : Nat} {ops : Array Oper} {h : Heap} {olds : List (Nat × Nat)} {t0 : List V} : ∀ (rest : List Oper) (acc : List AItem) (t : List V) (ans : List Ans) (r : DROut),
    evDr c cf lim ops h olds acc rest t ans = some r → (∀ p ∈ r.cons, p) → ∀ done, ops.toList = done ++ rest → done.length = acc.length → (∀ its, acc <+: its → tAt ops its h.length t0 acc.length = t) →
      acc <+: r.its ∧ r.its.length = ops.size ∧ r.t = tAt ops r.its h.length t0 ops.size ∧ ∀ k, acc.length ≤ k → ∀ o, ops[k]? = some o →
        ∃ ansk dk, evD1 c cf lim ops h olds (r.its.take k) (tAt ops r.its h.length t0 k) ansk o = some dk ∧ (∀ p ∈ dk.cons, p) ∧ r.its[k]? = some dk.it
  | [], acc, t, ans, r, he, hc, done, hd, hl, ht => by
    simp only [evDr, Option.some.injEq] at he
    subst he
    have hs : acc.length = ops.size := by rw [← Array.length_toList, hd]; simp [hl]
    refine ⟨List.prefix_refl _, hs, ?_, fun k hk o ho => ?_⟩
    · rw [← hs, ht _ (List.prefix_refl _)]
    · rw [Array.getElem?_eq_none (by omega)] at ho; cases ho
  | o :: rest, acc, t, ans, r, he, hc, done, hd, hl, ht => by
    simp only [evDr] at he
    split at he
    · cases he
    · rename_i d hd1
      split at he
      · cases he
      · rename_i r' hr'
        simp only [Option.some.injEq] at he
        subst he
        have ho : ops[acc.length]? = some o := by
          rw [← Array.getElem?_toList, hd, List.getElem?_append_right (by omega), hl, Nat.sub_self]; rfl
        have hnext : ∀ its, acc ++ [d.it] <+: its → tAt ops its h.length t0 (acc ++ [d.it]).length = putT t o.dst (d.it.slot h.length acc) := fun its hp => by
          have hp' : acc <+: its := (List.prefix_append acc [d.it]).trans hp
          have hi : its[acc.length]? = some d.it := by
            obtain ⟨u, rfl⟩ := hp
            simp
          have htk : its.take acc.length = acc := by
            obtain ⟨u, rfl⟩ := hp'
            simp
          rw [List.length_append, List.length_singleton]
          simp only [tAt, ho, hi, htk, ht its hp']
        obtain ⟨h1, h2, h3, h4⟩ := evDr_spec rest (acc ++ [d.it]) _ _ r' hr' (fun p hp => hc p (List.mem_append_right _ hp)) (done ++ [o]) (by rw [hd]; simp) (by simp [hl]) hnext
        have hp' : acc <+: r'.its := (List.prefix_append acc [d.it]).trans h1
        refine ⟨hp', h2, h3, fun k hk p hp => ?_⟩
        rcases Nat.lt_or_ge acc.length k with hlt | hge
        · exact h4 k (by simp; omega) p hp
        · obtain rfl : k = acc.length := by omega
          obtain rfl : o = p := Option.some.inj (ho.symm.trans hp)
          have htk : r'.its.take acc.length = acc := by
            obtain ⟨u, hu⟩ := hp'
            rw [← hu]; simp
          refine ⟨ans, d, ?_, fun q hq => hc q (List.mem_append_left _ hq), ?_⟩
          · show evD1 c cf lim ops h olds (r'.its.take acc.length) (tAt ops r'.its h.length t0 acc.length) ans o = some d
            rw [htk, ht _ hp', hd1]
          · show r'.its[acc.length]? = some d.it
            obtain ⟨u, hu⟩ := h1
            rw [← hu]; simp

/-- What a carried-out operation's item says. -/
inductive BodySpec (c : Cfg) (cf : CallF) (lim : Nat) (ops : Array Oper) (h : Heap) (olds : List (Nat × Nat)) (acc : List AItem) (t : List V) (o : Oper) : AItem → List Prop → Prop
  | alloc (T : TypeId) (z : Value) : o.op = .alloc T → pureRun c.P (zeroValue T) = some z → BodySpec c cf lim ops h olds acc t o (.new T (z.cells.toList.map .raw)) []
  | box (T : TypeId) (x : Operand) (v : V) (xs : List V) : o.op = .box T x → seen ops acc o x = true → opnd c t x = some v → v.under h.length = true → cellsV v = some xs → BodySpec c cf lim ops h olds acc t o (.new T xs) []
  | put (Ty : TypeId) (s : Nat) (y : Operand) (v : V) (xs : List V) (n k : Nat) (T : TypeId) (z : List V) : o.op = .store Ty (.tmp s) y → seen ops acc o y = true → opnd c t y = some v → v.under h.length = true → cellsV v = some xs → pureRun c.P (Go.sizeOf Ty) = some n → xs.length = n → oneCells xs = true →
      writer ops s = some k → acc[k]? = some (.new T z) → xs.length = z.length → BodySpec c cf lim ops h olds acc t o (.put k xs) []
  | old (Ty : TypeId) (s : Nat) (y : Operand) (v : V) (xs : List V) (n b off : Nat) (B : Blk) : o.op = .store Ty (.tmp s) y → seen ops acc o y = true → opnd c t y = some v → v.under h.length = true → cellsV v = some xs → pureRun c.P (Go.sizeOf Ty) = some n → xs.length = n → oneCells xs = true →
      ((writer ops s = none ∧ opnd c t (.tmp s) = some (.ptr b off)) ∨ (∃ k, writer ops s = some k ∧ bound o k = true ∧ acc[k]? = some (.val (.ptr b off)))) → h[b]? = some (some B) → lim ≤ b → off + xs.length ≤ B.cells.length → (acc.length, b) ∈ olds →
      BodySpec c cf lim ops h olds acc t o (.old b B.ty (putAt B.cells off xs)) []
  | val (l : List Operand) (ans : List Ans) (r : Out) : usedOpnds ans o.op = some l → l.all (seen ops acc o) = true → l.all (underO c t h.length) = true → evOp c cf h.length t (killed c.L ops olds acc.length h) ans o = some r → r.v.under h.length = true → BodySpec c cf lim ops h olds acc t o (.val r.v) r.cons

theorem underO_spec {c : Cfg} {t : List V} {n : Nat} {x : Operand} (h : underO c t n x = true) : ∃ v, opnd c t x = some v ∧ v.under n = true := by
  unfold underO at h
  split at h
  · rename_i v hv; exact ⟨v, hv, h⟩
  · cases h

theorem evBody_spec {c : Cfg} {cf : CallF} {lim : Nat} {ops : Array Oper} {h : Heap} {olds : List (Nat × Nat)} {acc : List AItem} {t : List V} {ans : List Ans} {o : Oper} {d : DOut}
    (he : evBody c cf lim ops h olds acc t ans o = some d) : BodySpec c cf lim ops h olds acc t o d.it d.cons := by
  have gen : ∀ op, o.op = op → (match usedOpnds ans op with
    | some l => if l.all (seen ops acc o) && l.all (underO c t h.length) then
        match evOp c cf h.length t (killed c.L ops olds acc.length h) ans o with
        | some r => if r.v.under h.length then some (⟨.val r.v, r.ans, r.cons⟩ : DOut) else none
        | none => none
      else none
    | none => none) = some d → BodySpec c cf lim ops h olds acc t o d.it d.cons := fun op hop h1 => by
    split at h1
    · rename_i l hl
      split at h1
      · rename_i hs
        rw [Bool.and_eq_true] at hs
        split at h1
        · rename_i r hr
          split at h1
          · rename_i hu
            simp only [Option.some.injEq] at h1
            subst h1
            exact .val l ans r (by rw [hop]; exact hl) hs.1 hs.2 hr hu
          · cases h1
        · cases h1
      · cases h1
    · cases h1
  unfold evBody at he
  split at he
  · rename_i T hop
    split at he
    · rename_i z hz
      simp only [Option.some.injEq] at he
      subst he
      exact .alloc T z hop hz
    · cases he
  · rename_i T x hop
    split at he
    · rename_i hs
      rw [Bool.and_eq_true] at hs
      obtain ⟨v, hv, hu⟩ := underO_spec hs.2
      rw [hv] at he
      simp only [Option.bind_some] at he
      split at he
      · rename_i xs hxs
        simp only [Option.some.injEq] at he
        subst he
        exact .box T x v xs hop hs.1 hv hu hxs
      · cases he
    · cases he
  · rename_i T x y hop
    split at he
    · rename_i hs
      rw [Bool.and_eq_true] at hs
      obtain ⟨v, hv, hu⟩ := underO_spec hs.2
      rw [hv] at he
      simp only [Option.bind_some] at he
      split at he
      · rename_i xs n d0 hxs hn
        split at he
        · rename_i h1
          split at he
          · rename_i hw
            split at he
            · rename_i b off hx
              split at he
              · rename_i B hB
                split at he
                · rename_i h2
                  simp only [Option.some.injEq] at he
                  subst he
                  exact .old T d0 y v xs n b off B hop hs.1 hv hu hxs hn h1.1 h1.2 (.inl ⟨hw, hx⟩) hB h2.1 h2.2.1 (by simpa using h2.2.2)
                · cases he
              · cases he
            · cases he
          · rename_i k hw
            split at he
            · rename_i T' z hk
              split at he
              · rename_i h2
                simp only [Option.some.injEq] at he
                subst he
                exact .put T d0 y v xs n k T' z hop hs.1 hv hu hxs hn h1.1 h1.2 hw hk h2
              · cases he
            · rename_i b off hk
              split at he
              · rename_i hbd
                split at he
                · rename_i B hB
                  split at he
                  · rename_i h2
                    simp only [Option.some.injEq] at he
                    subst he
                    exact .old T d0 y v xs n b off B hop hs.1 hv hu hxs hn h1.1 h1.2 (.inr ⟨k, hw, hbd, hk⟩) hB h2.1 h2.2.1 (by simpa using h2.2.2)
                  · cases he
                · cases he
              · cases he
            · cases he
        · cases he
      · cases he
    · cases he
  · exact gen _ rfl he

/-- The whole step: its guard is decided. -/
theorem evD1_spec {c : Cfg} {cf : CallF} {lim : Nat} {ops : Array Oper} {h : Heap} {olds : List (Nat × Nat)} {acc : List AItem} {t : List V} {ans : List Ans} {o : Oper} {d : DOut}
    (he : evD1 c cf lim ops h olds acc t ans o = some d) (hc : ∀ p ∈ d.cons, p) :
    (∃ cons, BodySpec c cf lim ops h olds acc t o d.it cons ∧ (∀ p ∈ cons, p) ∧ (o.guard = none ∨ ∃ j want b, o.guard = some (j, want) ∧ bound o j = true ∧ (ops[j]?).any (·.dst.isSome) = true ∧ acc[j]? = some (.val (.raw (.bool b))) ∧ (b == want) = true)) ∨
    (d.it = .skip ∧ ∃ j want b, o.guard = some (j, want) ∧ bound o j = true ∧ (ops[j]?).any (·.dst.isSome) = true ∧ acc[j]? = some (.val (.raw (.bool b))) ∧ (b == want) = false) := by
  unfold evD1 at he
  split at he
  · rename_i hg
    exact .inl ⟨d.cons, evBody_spec he, hc, .inl hg⟩
  · rename_i j want hg
    split at he
    · rename_i hb
      rw [Bool.and_eq_true] at hb
      split at he
      · rename_i b hj
        split at he
        · rename_i q ans'
          split at he
          · rename_i hq
            split at he
            · rename_i r hr
              split at he
              · cases he
              · simp only [Option.some.injEq] at he
                subst he
                have hbq : b = q := hc _ List.mem_cons_self
                exact .inl ⟨r.cons, evBody_spec hr, fun p hp => hc p (List.mem_cons_of_mem _ hp), .inr ⟨j, want, b, hg, hb.1, hb.2, hj, by rw [hbq]; exact hq⟩⟩
            · cases he
          · rename_i hq
            simp only [Option.some.injEq] at he
            subst he
            have hbq : b = q := hc _ List.mem_cons_self
            exact .inr ⟨rfl, j, want, b, hg, hb.1, hb.2, hj, by rw [hbq]; simpa using hq⟩
        · cases he
      · cases he
    · cases he
end Go.Proofs.Ytlgabdamgalngaa.E

/-
  The reckoner is right: a region that draws its order, whole.
-/
namespace Go.Proofs.Ytlgabdamgalngaa.E
open Go Go.RowKit

theorem isRaw_congr {c : Cfg} {t t' : List V} {x : Operand} (h : opnd c t x = opnd c t' x) : isRaw c t x = isRaw c t' x := by unfold isRaw; rw [h]
theorem rawOf_congr {c : Cfg} {t t' : List V} {x : Operand} (h : opnd c t x = opnd c t' x) : rawOf c t x = rawOf c t' x := by unfold rawOf; rw [h]
theorem opnds_congr {c : Cfg} {t t' : List V} : ∀ (l : List Operand), (∀ x ∈ l, opnd c t x = opnd c t' x) → opnds c t l = opnds c t' l
  | [], _ => rfl
  | x :: l, h => by simp only [opnds]; rw [h x List.mem_cons_self, opnds_congr l fun y hy => h y (List.mem_cons_of_mem _ hy)]
theorem bare_congr {c : Cfg} {t t' : List V} {op : Op} {l : List Operand} (hl : plainOpnds op = some l) (h : ∀ x ∈ l, opnd c t x = opnd c t' x) : bareOp op c t = bareOp op c t' := by
  unfold bareOp
  cases op with
  | binOp b xt x y yt =>
    simp only [plainOpnds, Option.some.injEq] at hl; subst hl
    dsimp only
    rw [h x (by simp), h y (by simp)]
  | unOp b xt x =>
    simp only [plainOpnds, Option.some.injEq] at hl; subst hl
    cases b <;> dsimp only <;> rw [h x (by simp)]
  | convert b xt x =>
    simp only [plainOpnds, Option.some.injEq] at hl; subst hl
    dsimp only
    rw [h x (by simp)]
  | _ => rfl
theorem gen_congr {c : Cfg} {t t' : List V} {h : Heap} {ans : List Ans} {o : Oper} {l : List Operand} (hl : plainOpnds o.op = some l) (hx : ∀ x ∈ l, opnd c t x = opnd c t' x) : evGen c t h ans o = evGen c t' h ans o := by
  unfold evGen
  rw [bare_congr hl hx, hl]
  dsimp only
  have e1 : l.all (isRaw c t) = l.all (isRaw c t') := by
    rw [Bool.eq_iff_iff, List.all_eq_true, List.all_eq_true]
    exact forall_congr' fun x => forall_congr' fun hm => by rw [isRaw_congr (hx x hm)]
  rw [e1, execOp_congr hl fun x hm => rawOf_congr (hx x hm)]
theorem evOp_congr {c : Cfg} {cf : CallF} {lim : Nat} {t t' : List V} {h : Heap} {ans : List Ans} {o : Oper} {l : List Operand} (hl : usedOpnds ans o.op = some l) (hx : ∀ x ∈ l, opnd c t x = opnd c t' x) :
    evOp c cf lim t h ans o = evOp c cf lim t' h ans o := by
  obtain ⟨dst, op, ty, pos, after, guard⟩ := o
  cases op with
  | move x => simp only [usedOpnds, Option.some.injEq] at hl; subst hl; simp only [evOp]; rw [hx x (by simp)]
  | assign x => simp only [usedOpnds, Option.some.injEq] at hl; subst hl; simp only [evOp]; rw [hx x (by simp)]
  | load T x => simp only [usedOpnds, Option.some.injEq] at hl; subst hl; simp only [evOp]; rw [hx x (by simp)]
  | fieldAddr T x f => simp only [usedOpnds, Option.some.injEq] at hl; subst hl; simp only [evOp]; rw [hx x (by simp)]
  | nilCheck x => simp only [usedOpnds, Option.some.injEq] at hl; subst hl; simp only [evOp]; rw [hx x (by simp)]
  | makeFunc f x y =>
    simp only [usedOpnds, Option.some.injEq] at hl; subst hl; simp only [evOp]
    rw [opnds_congr x.toList fun z hz => hx z (List.mem_append_left _ hz), opnds_congr y.toList fun z hz => hx z (List.mem_append_right _ hz)]
  | pick x y z =>
    simp only [usedOpnds] at hl
    split at hl
    · rename_i q ans'
      simp only [Option.some.injEq] at hl; subst hl
      simp only [evOp]
      rw [hx x (by simp)]
      have h2 := hx (if q then y else z) (by simp)
      split
      · rename_i e
        simp only [List.cons.injEq, Ans.br.injEq] at e
        obtain ⟨rfl, rfl⟩ := e
        rw [h2]
      · rfl
    · cases hl
  | call k =>
    obtain ⟨callee, args, ats⟩ := k
    cases callee with
    | value f =>
      simp only [usedOpnds, Option.some.injEq] at hl; subst hl; simp only [evOp]
      rw [hx f List.mem_cons_self, opnds_congr args.toList fun z hz => hx z (List.mem_cons_of_mem _ hz)]
    | builtin b =>
      have hg := gen_congr (h := h) (ans := ans) (o := ⟨dst, .call ⟨.builtin b, args, ats⟩, ty, pos, after, guard⟩) hl hx
      cases b with
      | len =>
        simp only [evOp]
        have e : lenV c t args ats = lenV c t' args ats := by
          simp only [usedOpnds, plainOpnds, Option.some.injEq] at hl
          unfold lenV
          split
          · rename_i x T ha _
            rw [hx x (by rw [← hl, ha]; simp)]
          · rfl
        rw [e, hg]
      | _ => exact hg
    | invoke x n => exact gen_congr (o := ⟨dst, .call ⟨.invoke x n, args, ats⟩, ty, pos, after, guard⟩) hl hx
  | indexAddr T x ix =>
    simp only [usedOpnds, Option.some.injEq] at hl; subst hl; simp only [evOp, indexV]
    rw [hx x (by simp), hx ix (by simp)]
  | buildSlice T n ps => simp [usedOpnds] at hl
  | binOp b T x y U =>
    have hg := gen_congr (h := h) (ans := ans) (o := ⟨dst, .binOp b T x y U, ty, pos, after, guard⟩) hl hx
    simp only [usedOpnds, plainOpnds, Option.some.injEq] at hl; subst hl; simp only [evOp, eqV]
    rw [hx x (by simp), hx y (by simp), hg]
  | alloc T => simp [usedOpnds] at hl
  | box T x => simp [usedOpnds] at hl
  | store T x y => simp [usedOpnds] at hl
  | unOp b xt x => exact gen_congr (o := ⟨dst, .unOp b xt x, ty, pos, after, guard⟩) hl hx
  | convert b xt x => exact gen_congr (o := ⟨dst, .convert b xt x, ty, pos, after, guard⟩) hl hx
  | field b x n => exact gen_congr (o := ⟨dst, .field b x n, ty, pos, after, guard⟩) hl hx
  | index b x n => exact gen_congr (o := ⟨dst, .index b x n, ty, pos, after, guard⟩) hl hx
  | extract x n => exact gen_congr (o := ⟨dst, .extract x n, ty, pos, after, guard⟩) hl hx
  | build T ps => exact gen_congr (o := ⟨dst, .build T ps, ty, pos, after, guard⟩) hl hx
  | _ => simp [usedOpnds, plainOpnds] at hl

section
variable {P : Program} {w : World} {g : Operand → Value} {dst : Option Tmp} {ty : TypeId} {pos : String} {after : Array Edge} {guard : Option (Nat × Bool)}
theorem alloc_run {T : TypeId} {z : Value} (hz : pureRun P (zeroValue T) = some z) : (execOp g ⟨dst, .alloc T, ty, pos, after, guard⟩).run P w = .ok (.value (.pointer (some ⟨w.heap.size, 0, none⟩))) (w.alloc (.cells z.cells T)) := by
  have hz' := pureRun_run hz
  simp only [execOp, Instr.alloc, newVar, newRow, newObj]
  generalize zeroValue T = s at hz' ⊢
  simp [go_sem, hz']
  rfl
theorem box_run {T : TypeId} {x : Operand} : (execOp g ⟨dst, .box T x, ty, pos, after, guard⟩).run P w = .ok (.value (.pointer (some ⟨w.heap.size, 0, none⟩))) (w.alloc (.cells (g x).cells T)) := by
  simp only [execOp, Instr.box, newVar, newRow, newObj]
  generalize (g x).cells = q
  simp [go_sem]
  rfl
theorem store_run {T : TypeId} {x y : Operand} {b off n : Nat} {vs : List Value} {cur : Array Value} {tb : TypeId} (hx : g x = .pointer (some ⟨b, off, none⟩)) (hsz : pureRun P (Go.sizeOf T) = some n) (hcs : (g y).cells.toList = vs) (hn : vs.length = n) (hone : ∀ v ∈ vs, v.oneCell' = true)
    (hb : w.heap[b]? = some (.cells cur tb (0, 0))) (hle : off + n ≤ cur.size) :
    (execOp g ⟨dst, .store T x y, ty, pos, after, guard⟩).run P w = .ok .skip (w.setRow b (List.take off cur.toList ++ vs ++ List.drop (off + n) cur.toList).toArray) := by
  have h3 := run_storeCells_at P b off tb vs 0 cur w hb (by omega) hone
  rw [hn] at h3
  have hsize : (g y).cells.size = n := by rw [← Array.length_toList, hcs, hn]
  have e : execOp g ⟨dst, .store T x y, ty, pos, after, guard⟩ = (do storeVar T ⟨b, off, none⟩ (g y); pure Next.skip) := by simp only [execOp, Instr.storeAt, Instr.sureAddr, hx]; rfl
  rw [e]
  unfold storeVar
  generalize (g y).cells = cl at hcs hsize ⊢
  simp [go_sem, pureRun_run hsz, hsize, hcs, h3]
theorem setRow_rewrites {b : Nat} {cs cur : Array Value} {tb : TypeId} (hb : w.heap[b]? = some (.cells cur tb (0, 0))) : R.Rewrites w (w.setRow b cs) b tb cs :=
  ⟨rfl, rfl, rfl, by simp [World.setRow], fun k hk => setRow_heap w b cs k hk, setRow_this w b cs cur tb hb⟩
end

section
variable {c : Cfg} {lim : Nat} {ops : Array Oper} {its : List AItem} {n0 : Nat} {t0 : List V}

theorem writer_spec {s j : Nat} (h : writer ops s = some j) : j < ops.size ∧ ∃ o, ops[j]? = some o ∧ o.dst = some s := by
  unfold writer at h
  have h1 := List.find?_some h
  have h2 := List.mem_range.1 (List.mem_of_find?_eq_some h)
  refine ⟨h2, ops[j], Array.getElem?_eq_getElem h2, ?_⟩
  simpa [Array.getElem?_eq_getElem h2] using h1
theorem writer_none {s : Nat} (h : writer ops s = none) (j : Nat) (o : Oper) (ho : ops[j]? = some o) : o.dst ≠ some s := by
  unfold writer at h
  rw [List.find?_eq_none] at h
  have hlt := R.itm_lt ho
  have := h j (List.mem_range.2 hlt)
  simpa [ho] using this
theorem putT_other {t : List V} {d : Option Nat} {v : V} {s : Nat} (h : d ≠ some s) : (putT t d v)[s]? = t[s]? := by
  cases d with
  | none => rfl
  | some d => exact List.getElem?_set_ne (fun e => h (by rw [e]))
theorem putT_len {t : List V} {d : Option Nat} {v : V} : (putT t d v).length = t.length := by
  cases d <;> simp [putT]
theorem tAt_len : ∀ k, (tAt ops its n0 t0 k).length = t0.length
  | 0 => rfl
  | k + 1 => by
    simp only [tAt]
    split
    · rw [putT_len, tAt_len k]
    · exact tAt_len k
theorem tAt_untouched {s : Nat} (h : writer ops s = none) : ∀ k, (tAt ops its n0 t0 k)[s]? = t0[s]?
  | 0 => rfl
  | k + 1 => by
    simp only [tAt]
    split
    · rename_i o it ho _
      rw [putT_other (writer_none h k o ho), tAt_untouched h k]
    · exact tAt_untouched h k
theorem tAt_written {s j : Nat} {o : Oper} {it : AItem} (ho : ops[j]? = some o) (hd : o.dst = some s) (hi : its[j]? = some it) (hs : s < t0.length)
    (once : ∀ (i : Nat) (p : Oper), ops[i]? = some p → p.dst = some s → i = j) : ∀ k, j < k → (tAt ops its n0 t0 k)[s]? = some (it.slot n0 (its.take j))
  | 0, h => by omega
  | k + 1, h => by
    rcases Nat.lt_or_ge j k with hlt | hge
    · have ih := tAt_written ho hd hi hs once k hlt
      simp only [tAt]
      split
      · rename_i p jt hp _
        rw [putT_other (fun e => by have := once k p hp e; omega), ih]
      · exact ih
    · obtain rfl : j = k := by omega
      simp only [tAt, ho, hi, hd, putT]
      rw [List.getElem?_set_self (by rw [tAt_len]; exact hs)]

theorem seen_take {k : Nat} {o : Oper} {x : Operand} (h : seen ops (its.take k) o x = true) : seen ops its o x = true := by
  cases x with
  | tmp s =>
    simp only [seen, visible] at h ⊢
    split at h
    · rfl
    · rename_i j hj
      rw [Bool.and_eq_true] at h ⊢
      refine ⟨h.1, ?_⟩
      have h2 := h.2
      cases hjt : (its.take k)[j]? with
      | none => rw [hjt] at h2; cases h2
      | some it =>
        have : its[j]? = some it := by
          rw [List.getElem?_take] at hjt
          split at hjt
          · exact hjt
          · cases hjt
        rw [this]
        rw [hjt] at h2
        exact h2
  | _ => rfl

/-- What operation k reads off slots that it may rely on. -/
theorem known_of {ρ : Ren} {a : Act} {w : World} {h : Heap} (RH : RelH c ρ h w) (RT : RelT ρ h.length t0 a) (sh : R.Shape ops (its.map (AItem.to ρ)) t0.length) (hv : ∀ (j : Nat) (v : V), its[j]? = some (.val v) → v.under h.length = true) {k : Nat} {o : Oper} (ho : ops[k]? = some o) {s : Nat} (hs : visible ops its o s = true) {v : V}
    (ht : (tAt ops its h.length t0 k)[s]? = some v) (hna : ∀ i, v ≠ .any i) : R.known ops (its.map (AItem.to ρ)) a o s = some (v.conc ρ) ∧ v.under h.length = true := by
  unfold R.known
  unfold visible at hs
  cases hw : writer ops s with
  | none =>
    rw [tAt_untouched hw] at ht
    have hw' : (List.range ops.size).find? (fun j => (ops[j]?.bind (·.dst)) == some s) = none := hw
    simp only [hw']
    refine ⟨by rw [RT.tmps]; simp [concs_get, ht], ?_⟩
    have := RT.sco v (List.mem_of_getElem? ht)
    cases v with
    | any i => exact absurd rfl (hna i)
    | _ => exact this
  | some j =>
    rw [hw] at hs
    simp only [Bool.and_eq_true] at hs
    obtain ⟨hb, hj⟩ := hs
    have hw' : (List.range ops.size).find? (fun j => (ops[j]?.bind (·.dst)) == some s) = some j := hw
    simp only [hw']
    obtain ⟨hlt, p, hp, hd⟩ := writer_spec hw
    cases hi : its[j]? with
    | none => rw [hi] at hj; cases hj
    | some it =>
      rw [hi] at hj
      cases it with
      | val u =>
        have hjk : j < k := by
          unfold bound at hb
          rw [List.any_eq_true] at hb
          obtain ⟨e, he, hb⟩ := hb
          rw [Bool.and_eq_true, beq_iff_eq] at hb
          have := sh.back k o ho e (Array.mem_toList_iff.1 he) hb.1
          omega
        have h1 := tAt_written (n0 := h.length) hp hd hi (sh.lt j p s hp hd) (fun i q hq hqd => sh.once i j q p s hq hp hqd hd) k hjk
        rw [h1] at ht
        simp only [AItem.slot, Option.some.injEq] at ht
        subst ht
        unfold bound at hb
        rw [if_pos hb]
        refine ⟨by simp [hi, AItem.to], hv j u hi⟩
      | _ => cases hj

/-- The slots of operation k, as far as it may rely on them; the others are forgotten. -/
def mask (ops : Array Oper) (its : List AItem) (o : Oper) (t : List V) (n : Nat) : List V :=
  (List.range n).map fun s => if visible ops its o s then (match t[s]? with
    | some (.any _) => .any s
    | some v => v
    | none => .any s) else .any s
def Ren.at (ρ : Ren) (a : Act) : Ren := ⟨ρ.blk, fun s => a.tmps.getD s undef⟩
theorem mask_rel {ρ : Ren} {a0 a : Act} {w : World} {h : Heap} (RH : RelH c ρ h w) (RT : RelT ρ h.length t0 a0) (sh : R.Shape ops (its.map (AItem.to ρ)) t0.length) (hv : ∀ (j : Nat) (v : V), its[j]? = some (.val v) → v.under h.length = true) {k : Nat} {o : Oper} (ho : ops[k]? = some o)
    (E : R.Env ops (its.map (AItem.to ρ)) a0 o a) : RelT (ρ.at a) h.length (mask ops its o (tAt ops its h.length t0 k) a.tmps.size) a := by
  refine ⟨?_, fun x hx => ?_⟩
  · apply Array.ext_getElem?
    intro s
    rcases Nat.lt_or_ge s a.tmps.size with hs | hs
    · have et : ∀ l : List Value, l.toArray[s]? = l[s]? := fun l => List.getElem?_toArray
      rw [et (concs (ρ.at a) (mask ops its o (tAt ops its h.length t0 k) a.tmps.size)), concs_get]
      simp only [mask, List.getElem?_map, List.getElem?_range hs, Option.map_some]
      have hdef : a.tmps[s]? = some ((V.any s).conc (ρ.at a)) := by simp [V.conc, Ren.at, hs]
      split
      · rename_i hvis
        split
        · exact hdef
        · rename_i v hna ht
          obtain ⟨h1, h2⟩ := known_of RH RT sh hv ho hvis ht (fun i e => hna i (by rw [e]))
          rw [E s _ h1, V.conc_agree (ρ := ρ) (ρ' := ρ.at a) (fun _ _ => rfl) v h2]
        · exact hdef
      · exact hdef
    · have et : ∀ l : List Value, l.toArray[s]? = l[s]? := fun l => List.getElem?_toArray
      rw [Array.getElem?_eq_none hs, et (concs (ρ.at a) (mask ops its o (tAt ops its h.length t0 k) a.tmps.size)), List.getElem?_eq_none (by rw [concs_length]; simp [mask, hs])]
  · simp only [mask, List.mem_map, List.mem_range] at hx
    obtain ⟨s, hs, rfl⟩ := hx
    split
    · rename_i hvis
      split
      · rfl
      · rename_i v hna ht
        exact V.slot_of_under _ (known_of RH RT sh hv ho hvis ht (fun i e => hna i (by rw [e]))).2
      · rfl
    · rfl
theorem mask_opnd {ρ : Ren} {a0 a : Act} {w : World} {h : Heap} (RH : RelH c ρ h w) (RT : RelT ρ h.length t0 a0) (sh : R.Shape ops (its.map (AItem.to ρ)) t0.length) (hv : ∀ (j : Nat) (v : V), its[j]? = some (.val v) → v.under h.length = true) {k : Nat} {o : Oper} (ho : ops[k]? = some o)
    (E : R.Env ops (its.map (AItem.to ρ)) a0 o a) {x : Operand} (hx : seen ops its o x = true) : opnd c (mask ops its o (tAt ops its h.length t0 k) a.tmps.size) x = opnd c (tAt ops its h.length t0 k) x := by
  cases x with
  | tmp s =>
    simp only [opnd]
    simp only [seen] at hx
    rcases Nat.lt_or_ge s a.tmps.size with hs | hs
    · simp only [mask, List.getElem?_map, List.getElem?_range hs, Option.map_some, hx, if_true]
      cases ht : (tAt ops its h.length t0 k)[s]? with
      | none => rfl
      | some v => cases v <;> rfl
    · rw [List.getElem?_eq_none (by simp [mask, hs])]
      cases ht : (tAt ops its h.length t0 k)[s]? with
      | none => rfl
      | some v =>
        have key : (∀ i, v ≠ .any i) → False := fun hna => by
          obtain ⟨h1, _⟩ := known_of RH RT sh hv ho hx ht hna
          have := E s _ h1
          rw [Array.getElem?_eq_none hs] at this
          cases this
        cases v with
        | any i => rfl
        | _ => exact (key (fun i e => by cases e)).elim
  | _ => rfl

theorem killed_len (L : Nat) (olds : List (Nat × Nat)) (i : Nat) : ∀ (h : Heap), (killed L ops olds i h).length = h.length := by
  unfold killed
  induction olds with
  | nil => intro h; rfl
  | cons p l ih =>
    intro h
    simp only [List.foldl_cons]
    rw [ih]
    split
    · rfl
    · simp [killOne]
theorem killed_low (L : Nat) (olds : List (Nat × Nat)) (i b : Nat) (hb : b < L) : ∀ (h : Heap), (killed L ops olds i h)[b]? = h[b]? := by
  unfold killed
  induction olds with
  | nil => intro h; rfl
  | cons p l ih =>
    intro h
    simp only [List.foldl_cons]
    rw [ih]
    split
    · rfl
    · rename_i hw
      simp only [Bool.or_eq_true, decide_eq_true_eq, not_or] at hw
      simp only [killOne]
      exact List.getElem?_set_ne (by omega)
theorem killed_get (L : Nat) (olds : List (Nat × Nat)) (i : Nat) : ∀ (h : Heap) (b : Nat) (B : Blk), (killed L ops olds i h)[b]? = some (some B) → h[b]? = some (some B) ∧ ∀ j, L ≤ b → (j, b) ∈ olds → R.waitsFor ops j i = true := by
  unfold killed
  induction olds with
  | nil => intro h b B hb; exact ⟨hb, by simp⟩
  | cons p l ih =>
    intro h b B hb
    simp only [List.foldl_cons] at hb
    obtain ⟨h1, h2⟩ := ih _ b B hb
    split at h1
    · rename_i hw
      refine ⟨h1, fun j hL hj => ?_⟩
      rcases List.mem_cons.1 hj with e | hj
      · rw [← e] at hw
        simp only [Bool.or_eq_true, decide_eq_true_eq] at hw
        rcases hw with hw | hw
        · exact hw
        · omega
      · exact h2 j hL hj
    · rename_i hw
      have hne : b ≠ p.2 := by
        rintro rfl
        simp only [killOne] at h1
        rcases Nat.lt_or_ge p.2 h.length with hl | hl
        · rw [List.getElem?_set_self hl] at h1; cases h1
        · rw [List.getElem?_eq_none (by simpa using hl)] at h1; cases h1
      simp only [killOne] at h1
      rw [List.getElem?_set_ne (Ne.symm hne)] at h1
      refine ⟨h1, fun j hL hj => ?_⟩
      rcases List.mem_cons.1 hj with e | hj
      · exact absurd (congrArg Prod.snd e) hne
      · exact h2 j hL hj
theorem killed_rel {ρ : Ren} {h : Heap} {w0 w : World} (RH : RelH c ρ h w0) (hL : c.L ≤ lim) {olds : List (Nat × Nat)} (ho : ∀ (j b : Nat) (T : TypeId) (cs : List V), its[j]? = some (.old b T cs) → (j, b) ∈ olds ∧ lim ≤ b ∧ b < h.length) {i : Nat}
    (K : R.Kept (R.isOld ops (its.map (AItem.to ρ)) i) w0 w) (a : Act) : RelH c (ρ.at a) (killed c.L ops olds i h) w := by
  refine ⟨fun b B hb => ?_, fun b hb => ?_, fun b b' h1 h2 h3 h4 => ?_, fun b B hb => ?_, fun p hp => ?_, by rw [killed_len]; exact RH.big, fun b hb => by rw [killed_low _ _ _ _ hb]; exact RH.base b hb⟩
  · obtain ⟨h1, h2⟩ := killed_get c.L olds i h b B hb
    obtain ⟨fr, h3, h4⟩ := RH.cell b B h1
    have hbl : b < h.length := by
      rcases Nat.lt_or_ge b h.length with h5 | h5
      · exact h5
      · rw [List.getElem?_eq_none h5] at h1; cases h1
    refine ⟨fr, ?_, h4⟩
    rw [concs_agree (ρ := ρ) (ρ' := ρ.at a) (fun _ _ => rfl) _ (RH.sco b B h1)]
    refine (K.block _ (RH.lt b hbl) ?_).trans h3
    unfold R.isOld
    rw [List.any_eq_false]
    intro j hj
    rw [List.getElem?_map]
    cases hit : its[j]? with
    | none => simp
    | some it =>
      cases it with
      | old b' T cs =>
        obtain ⟨k1, k2, k3⟩ := ho j b' T cs hit
        simp only [Option.map_some, AItem.to]
        by_cases e : ρ.blk b' = ρ.blk b
        · have := RH.inj b' b (by omega) k3 hbl e
          subst this
          simp [h2 j (by omega) k1]
        · simp [e]
      | _ => simp [AItem.to]
  · rw [killed_len] at hb
    exact Nat.lt_of_lt_of_le (RH.lt b hb) K.size
  · rw [killed_len] at h2 h3
    exact RH.inj b b' h1 h2 h3 h4
  · rw [killed_len]
    exact RH.sco b B (killed_get c.L olds i h b B hb).1
  · rw [killed_len]
    exact RH.glob p hp
end
end Go.Proofs.Ytlgabdamgalngaa.E

/-
  The reckoner is right: a region that draws its order.
-/
namespace Go.Proofs.Ytlgabdamgalngaa.E
open Go Go.RowKit

section
variable {c : Cfg} {lim : Nat}

theorem putAt_len {cs xs : List V} {off : Nat} (h : off + xs.length ≤ cs.length) : (putAt cs off xs).length = cs.length := by
  simp [putAt]; omega

/-- What the walk over the operations gives, all told. -/
structure Told (c : Cfg) (cf : CallF) (lim : Nat) (ops : Array Oper) (h : Heap) (olds : List (Nat × Nat)) (D : List AItem) (t : List V) : Prop where
  len : D.length = ops.size
  spec : ∀ (k : Nat) (o : Oper), ops[k]? = some o → ∃ it, D[k]? = some it ∧
    ((∃ cons, BodySpec c cf lim ops h olds (D.take k) (tAt ops D h.length t k) o it cons ∧ (∀ p ∈ cons, p) ∧ (o.guard = none ∨ ∃ j want b, o.guard = some (j, want) ∧ bound o j = true ∧ (ops[j]?).any (·.dst.isSome) = true ∧ D[j]? = some (.val (.raw (.bool b))) ∧ (b == want) = true)) ∨
    (it = .skip ∧ ∃ j want b, o.guard = some (j, want) ∧ bound o j = true ∧ (ops[j]?).any (·.dst.isSome) = true ∧ D[j]? = some (.val (.raw (.bool b))) ∧ (b == want) = false))

theorem take_get {D : List AItem} {k j : Nat} {it : AItem} (h : (D.take k)[j]? = some it) : D[j]? = some it ∧ j < k := by
  rw [List.getElem?_take] at h
  split at h
  · rename_i hlt; exact ⟨h, hlt⟩
  · cases h

theorem told_of {cf : CallF} {ops : Array Oper} {h : Heap} {olds : List (Nat × Nat)} {t : List V} {ans : List Ans} {d : DROut} (he : evDr c cf lim ops h olds [] ops.toList t ans = some d) (hc : ∀ p ∈ d.cons, p) :
    Told c cf lim ops h olds d.its t ∧ d.t = tAt ops d.its h.length t ops.size := by
  obtain ⟨_, h2, h3, h4⟩ := evDr_spec (t0 := t) ops.toList [] t ans d he hc [] rfl rfl (fun its _ => rfl)
  refine ⟨⟨h2, fun k o ho => ?_⟩, h3⟩
  obtain ⟨ansk, dk, k1, k2, k3⟩ := h4 k (Nat.zero_le _) o ho
  refine ⟨dk.it, k3, ?_⟩
  rcases evD1_spec k1 k2 with ⟨cons, b1, b2, b3⟩ | ⟨b1, j, want, b, b2, b3, b4, b5, b6⟩
  · refine .inl ⟨cons, b1, b2, ?_⟩
    rcases b3 with b3 | ⟨j, want, b, c1, c2, c3, c4, c5⟩
    · exact .inl b3
    · exact .inr ⟨j, want, b, c1, c2, c3, (take_get c4).1, c5⟩
  · exact .inr ⟨b1, j, want, b, b2, b3, b4, (take_get b5).1, b6⟩

section
variable {cf : CallF} {ops : Array Oper} {h : Heap} {olds : List (Nat × Nat)} {D : List AItem} {t : List V}
theorem Told.op (H : Told c cf lim ops h olds D t) {j : Nat} {it : AItem} (hj : D[j]? = some it) : ∃ o, ops[j]? = some o := by
  have hlt : j < D.length := by
    rcases Nat.lt_or_ge j D.length with h1 | h1
    · exact h1
    · rw [List.getElem?_eq_none h1] at hj; cases hj
  exact ⟨ops[j]'(by rw [← H.len]; exact hlt), Array.getElem?_eq_getElem _⟩
theorem Told.at (H : Told c cf lim ops h olds D t) {j : Nat} {it : AItem} (hj : D[j]? = some it) (hs : it ≠ .skip) : ∃ o cons, ops[j]? = some o ∧ BodySpec c cf lim ops h olds (D.take j) (tAt ops D h.length t j) o it cons ∧ (∀ p ∈ cons, p) := by
  obtain ⟨o, ho⟩ := H.op hj
  obtain ⟨it', h1, h2⟩ := H.spec j o ho
  obtain rfl := Option.some.inj (hj.symm.trans h1)
  rcases h2 with ⟨cons, b1, b2, _⟩ | ⟨e, _⟩
  · exact ⟨o, cons, ho, b1, b2⟩
  · exact absurd e hs
theorem Told.vals (H : Told c cf lim ops h olds D t) (j : Nat) (v : V) (hj : D[j]? = some (.val v)) : v.under h.length = true := by
  obtain ⟨o, cons, ho, hb, _⟩ := H.at hj (by simp)
  cases hb with
  | val l ans r h1 h2 h3 h4 h5 => exact h5
theorem Told.tk (H : Told c cf lim ops h olds D t) {j : Nat} {it : AItem} (hj : D[j]? = some it) : (D.take j).length = j := by
  have hlt : j < D.length := by
    rcases Nat.lt_or_ge j D.length with h1 | h1
    · exact h1
    · rw [List.getElem?_eq_none h1] at hj; cases hj
  rw [List.length_take]; omega
theorem Told.old (H : Told c cf lim ops h olds D t) (hsco : ∀ (i : Nat) (B : Blk), h[i]? = some (some B) → unders h.length B.cells = true) (j b : Nat) (T : TypeId) (cs : List V) (hj : D[j]? = some (.old b T cs)) :
    ((j, b) ∈ olds ∧ lim ≤ b ∧ b < h.length) ∧ unders h.length cs = true ∧ ∃ B, h[b]? = some (some B) ∧ T = B.ty ∧ cs.length = B.cells.length := by
  obtain ⟨o, cons, ho, hb, _⟩ := H.at hj (by simp)
  cases hb with
  | old Ty s y v xs n _ off B h1 h2 h3 h4 h5 h6 h7 h8 h9 h10 h11 h12 h13 =>
    rw [H.tk hj] at h13
    have hbl : b < h.length := by
      rcases Nat.lt_or_ge b h.length with k | k
      · exact k
      · rw [List.getElem?_eq_none k] at h10; cases h10
    refine ⟨⟨h13, h11, hbl⟩, ?_, B, h10, rfl, putAt_len h12⟩
    refine unders_append (unders_append ?_ (cellsV_under h5 h4)) ?_
    · exact unders_sub (hsco b B h10) fun x hx => List.mem_of_mem_take hx
    · exact unders_sub (hsco b B h10) fun x hx => List.mem_of_mem_drop hx
theorem Told.puts (H : Told c cf lim ops h olds D t) (j k : Nat) (cs : List V) (hj : D[j]? = some (.put k cs)) : unders h.length cs = true ∧ ∃ T z, D[k]? = some (.new T z) ∧ cs.length = z.length := by
  obtain ⟨o, cons, ho, hb, _⟩ := H.at hj (by simp)
  cases hb with
  | put Ty s y v xs n _ T z h1 h2 h3 h4 h5 h6 h7 h8 h9 h10 h11 => exact ⟨cellsV_under h5 h4, T, z, (take_get h10).1, h11⟩
theorem body_notskip {acc : List AItem} {o : Oper} {it : AItem} {cons : List Prop} {tt : List V} (h : BodySpec c cf lim ops h olds acc tt o it cons) : it ≠ .skip := by
  cases h <;> simp
theorem Told.guards (H : Told c cf lim ops h olds D t) (ρ : Ren) (i : Nat) (o : Oper) (it : R.Item) (ho : ops[i]? = some o) (hi : (D.map (AItem.to ρ))[i]? = some it) : R.guardOk ops (D.map (AItem.to ρ)) o it = true := by
  obtain ⟨di, h1, h2⟩ := H.spec i o ho
  rw [List.getElem?_map, h1] at hi
  simp only [Option.map_some, Option.some.injEq] at hi
  subst hi
  have skipEq : ∀ x : AItem, R.isSkip (x.to ρ) = (match x with | .skip => true | _ => false) := fun x => by cases x <;> rfl
  rcases h2 with ⟨cons, b1, _, b3⟩ | ⟨e, j, want, b, c1, c2, c3, c4, c5⟩
  · have hns : R.isSkip (di.to ρ) = false := by
      rw [skipEq]
      cases di <;> first | rfl | exact absurd rfl (body_notskip b1)
    rcases b3 with b3 | ⟨j, want, b, c1, c2, c3, c4, c5⟩
    · simp [R.guardOk, b3, hns]
    · unfold R.guardOk
      rw [c1]
      simp only
      unfold bound at c2
      rw [c2]
      cases hp : ops[j]? with
      | none => rw [hp] at c3; cases c3
      | some p =>
        rw [hp] at c3
        have c3' : p.dst.isSome = true := c3
        have e : (D.map (AItem.to ρ))[j]? = some (.val (.bool b)) := by rw [List.getElem?_map, c4]; rfl
        rw [e]
        simp only [c3', hns, c5]
        rfl
  · subst e
    unfold R.guardOk
    rw [c1]
    simp only
    unfold bound at c2
    rw [c2]
    cases hp : ops[j]? with
    | none => rw [hp] at c3; cases c3
    | some p =>
      rw [hp] at c3
      have c3' : p.dst.isSome = true := c3
      have e : (D.map (AItem.to ρ))[j]? = some (.val (.bool b)) := by rw [List.getElem?_map, c4]; rfl
      rw [e]
      simp only [c3', AItem.to, R.isSkip, c5]
      rfl

theorem evDrawn_steps {ρ : Ren} {a : Act} {w : World} {Q : Exit → Act → World → Prop} (hcf : CallOk c cf) (hfn : ∀ f, c.fns f = true → Callable c.P f) (hL : c.L ≤ lim) (H : Told c cf lim ops h olds D t) (RH : RelH c ρ h w) (RT : RelT ρ h.length t a)
    (sh : R.Shape ops (D.map (AItem.to ρ)) t.length) (i : Nat) (o : Oper) (it : R.Item) (ho : ops[i]? = some o) (hi : (D.map (AItem.to ρ))[i]? = some it) : R.StepOk c.P Q ops (D.map (AItem.to ρ)) a w i o it := by
  obtain ⟨di, h1, h2⟩ := H.spec i o ho
  have htk := H.tk h1
  rw [List.getElem?_map, h1] at hi
  simp only [Option.map_some, Option.some.injEq] at hi
  subst hi
  have hold : ∀ (j b : Nat) (T : TypeId) (cs : List V), D[j]? = some (.old b T cs) → (j, b) ∈ olds ∧ lim ≤ b ∧ b < h.length := fun j b T cs hj => (H.old RH.sco j b T cs hj).1
  have ev : ∀ {a' : Act} {w' : World} {x : Operand} {v : V}, R.Env ops (D.map (AItem.to ρ)) a o a' → R.Kept (R.isOld ops (D.map (AItem.to ρ)) i) w w' → seen ops (D.take i) o x = true → opnd c (tAt ops D h.length t i) x = some v → v.under h.length = true → a'.eval x = v.conc ρ := fun {a' w' x v} E hk hs hx hu => by
    have RTm := mask_rel RH RT sh H.vals ho E
    have RHk := killed_rel RH hL hold hk a'
    have e := mask_opnd RH RT sh H.vals ho E (seen_take hs)
    rw [hx] at e
    have RTm' : RelT (ρ.at a') (killed c.L ops olds i h).length (mask ops D o (tAt ops D h.length t i) a'.tmps.size) a' := by rw [killed_len]; exact RTm
    rw [opnd_eval RHk RTm' e]
    exact V.conc_agree (ρ := ρ) (ρ' := ρ.at a') (n := h.length) (fun _ _ => rfl) v hu
  rcases h2 with ⟨cons, hb, hcons, _⟩ | ⟨rfl, _⟩
  · cases hb with
    | alloc T z hop hz =>
      obtain ⟨dst, op, ty, pos, after, guard⟩ := o
      simp only at hop
      subst hop
      intro a' w' K E hk hK
      unfold Oper.wp
      rw [alloc_run hz]
      rw [concs_raw] at hK
      exact hK
    | box T x v xs hop hs hx hu hxs =>
      have hev := fun a' w' => ev (a' := a') (w' := w') (x := x) (v := v)
      obtain ⟨dst, op, ty, pos, after, guard⟩ := o
      simp only at hop
      subst hop
      intro a' w' K E hk hK
      have e := hev a' w' E hk hs hx hu
      unfold Oper.wp
      rw [box_run, e]
      have e2 : (v.conc ρ).cells = (concs ρ xs).toArray := by apply Array.toList_inj.1; rw [cellsV_conc ρ hxs]
      rw [e2]
      exact hK
    | put Ty s y v xs n k T z hop hs hy hu hxs hsz hn hone hw hk' hzl =>
      have hev := fun a' w' => ev (a' := a') (w' := w') (x := y) (v := v)
      obtain ⟨_, p, hp, hpd⟩ := writer_spec hw
      obtain ⟨dst, op, ty, pos, after, guard⟩ := o
      simp only at hop
      subst hop
      intro T' z' hz' a' w' K b cs0 dd E hk hdd htd hb hcs0 hK
      have e := hev a' w' E hk hs hy hu
      rw [hp] at hdd
      simp only [Option.bind_some, hpd, Option.some.injEq] at hdd
      subst hdd
      rw [List.getElem?_map, (take_get hk').1] at hz'
      simp only [Option.map_some, AItem.to, Option.some.injEq, R.Item.new.injEq] at hz'
      obtain ⟨rfl, rfl⟩ := hz'
      have hx : a'.eval (.tmp s) = .pointer (some ⟨b, 0, none⟩) := by simp [Act.eval, htd]
      have hsize : cs0.size = n := by rw [hcs0]; simp [concs_length]; omega
      unfold Oper.wp
      rw [store_run (n := n) (vs := concs ρ xs) hx hsz (by rw [e]; exact cellsV_conc ρ hxs) (by rw [concs_length]; exact hn) (oneCells_ok ρ xs hone) hb (by omega)]
      have e3 : (List.take 0 cs0.toList ++ concs ρ xs ++ List.drop (0 + n) cs0.toList).toArray = (concs ρ xs).toArray := by
        rw [List.drop_eq_nil_of_le (by simp [hsize])]; simp
      rw [e3]
      exact hK _ (setRow_rewrites hb)
    | old Ty s y v xs n b off B hop hs hy hu hxs hsz hn hone hptr hB hlim hle hmem =>
      have hev := fun a' w' => ev (a' := a') (w' := w') (x := y) (v := v)
      have hbl := (hold i b _ _ h1).2.2
      have hptr' : ∀ a', R.Env ops (D.map (AItem.to ρ)) a o a' → a'.eval (.tmp s) = .pointer (some ⟨ρ.blk b, off, none⟩) := fun a' E => by
        have hvis : visible ops D o s = true ∧ (tAt ops D h.length t i)[s]? = some (.ptr b off) := by
          rcases hptr with ⟨h3, h4⟩ | ⟨k, h3, h4, h5⟩
          · refine ⟨by simp [visible, h3], ?_⟩
            simp only [opnd] at h4
            split at h4
            · cases h4
            · cases h4
            · exact h4
          · obtain ⟨h6, h7⟩ := take_get h5
            obtain ⟨_, p, hp, hpd⟩ := writer_spec h3
            refine ⟨by simp [visible, h3, h4, h6], ?_⟩
            rw [tAt_written hp hpd h6 (sh.lt k p s hp hpd) (fun m q hq hqd => sh.once m k q p s hq hp hqd hpd) i h7]
            rfl
        obtain ⟨h3, _⟩ := known_of RH RT sh H.vals ho hvis.1 hvis.2 (by simp)
        have := E s _ h3
        simp [Act.eval, this, V.conc]
      obtain ⟨dst, op, ty, pos, after, guard⟩ := o
      simp only at hop
      subst hop
      intro a' w' K cs0 E hk hsame hb hcs0 hK
      have e := hev a' w' E hk hs hy hu
      obtain ⟨fr, k1, k2⟩ := RH.cell b B hB
      rw [hsame, k1] at hb
      simp only [Option.some.injEq, Obj.cells.injEq] at hb
      obtain ⟨rfl, _, rfl⟩ := hb
      unfold Oper.wp
      rw [store_run (n := n) (vs := concs ρ xs) (hptr' a' E) hsz (by rw [e]; exact cellsV_conc ρ hxs) (by rw [concs_length]; exact hn) (oneCells_ok ρ xs hone) (hsame.trans k1) (by simp [concs_length]; omega)]
      have e3 : (List.take off (concs ρ B.cells).toArray.toList ++ concs ρ xs ++ List.drop (off + n) (concs ρ B.cells).toArray.toList).toArray = (concs ρ (putAt B.cells off xs)).toArray := by
        simp [putAt, concs_map, List.map_take, List.map_drop, hn]
      rw [e3]
      exact hK _ (setRow_rewrites (hsame.trans k1))
    | val l ansk r hl hs hu he hru =>
      intro a' w' K E hk hK
      have RTm := mask_rel RH RT sh H.vals ho E
      have RHk := killed_rel RH hL hold hk a'
      rw [htk] at he
      have he' := (evOp_congr (c := c) (cf := cf) (lim := h.length) (h := killed c.L ops olds i h) hl (fun x hx => mask_opnd RH RT sh H.vals ho E (seen_take (List.all_eq_true.1 hs x hx)))).trans he
      have RTm' : RelT (ρ.at a') (killed c.L ops olds i h).length (mask ops D o (tAt ops D h.length t i) a'.tmps.size) a' := by rw [killed_len]; exact RTm
      refine evOp_sound hcf hfn he' hcons RHk RTm' RH.big fun ρ' w1 hu' RH1 F1 hv1 => ?_
      have e : r.v.conc ρ' = r.v.conc ρ := V.conc_agree (ρ := ρ) (ρ' := ρ') (n := h.length) (fun j hj => F1.ren j (by rw [killed_len]; exact hj)) _ hru
      rw [e]
      exact hK w1 ⟨F1.os, F1.tape, F1.output, F1.size, fun k hk => F1.blk k hk fun j h3 h4 => by rw [killed_len] at h4; omega⟩
  · trivial

theorem slot_conc {ρ ρ' : Ren} {β : Nat → Nat} (H : Told c cf lim ops h olds D t) (h1 : ∀ i, i < h.length → ρ'.blk i = ρ.blk i) (h2 : ∀ m, m < cntNew D → ρ'.blk (h.length + m) = β (newPos D m)) {k : Nat} {it : AItem} (hk : D[k]? = some it) :
    (it.slot h.length (D.take k)).conc ρ' = R.Item.value β k (it.to ρ) ∧ (it.slot h.length (D.take k)).under (h.length + cntNew D) = true := by
  cases it with
  | val v =>
    have hu := H.vals k v hk
    exact ⟨V.conc_agree h1 v hu, V.under_mono (by omega) v hu⟩
  | new T z =>
    obtain ⟨e1, e2⟩ := newPos_take D k T z hk
    refine ⟨?_, by simp only [AItem.slot, V.under, decide_eq_true_eq]; omega⟩
    simp only [AItem.slot, V.conc, AItem.to, R.Item.value]
    rw [h2 _ e2, e1]
  | put j cs => exact ⟨rfl, rfl⟩
  | old b T cs => exact ⟨rfl, rfl⟩
  | skip => exact ⟨rfl, rfl⟩

theorem fin_rel {ρ ρ' : Ren} {β : Nat → Nat} {a : Act} (H : Told c cf lim ops h olds D t) (RT : RelT ρ h.length t a) (hu : ρ'.unk = ρ.unk) (h1 : ∀ i, i < h.length → ρ'.blk i = ρ.blk i) (h2 : ∀ m, m < cntNew D → ρ'.blk (h.length + m) = β (newPos D m)) :
    ∀ m, RelT ρ' (h.length + cntNew D) (tAt ops D h.length t m) (R.finAct ops (D.map (AItem.to ρ)) β m a)
  | 0 => by
    refine ⟨?_, fun x hx => V.slotOk_mono (by omega) x (RT.sco x hx)⟩
    simp only [tAt, R.finAct, RT.tmps, concs_map]
    congr 1
    exact List.map_congr_left fun x hx => (V.slot_agree h1 hu x (RT.sco x hx)).symm
  | m + 1 => by
    have ih := fin_rel H RT hu h1 h2 m
    simp only [tAt, R.finAct]
    cases ho : ops[m]? with
    | none => simp only; exact ih
    | some o =>
      obtain ⟨it, hi, _⟩ := H.spec m o ho
      rw [List.getElem?_map, hi]
      simp only [Option.map_some]
      obtain ⟨e1, e2⟩ := slot_conc (ρ := ρ) (β := β) H h1 h2 hi
      have := relT_put ih (fun _ _ => rfl) rfl (Nat.le_refl _) (V.slot_of_under _ e2) o.dst
      rw [e1] at this
      cases hd : o.dst with
      | none => rw [hd] at this; exact this
      | some d => rw [hd] at this; exact this

theorem evDrawn_sound (hm : c.P.follows .mixedOrders = true) (hcf : CallOk c cf) (hfn : ∀ f, c.fns f = true → Callable c.P f) (hL : c.L ≤ lim) {id : Nat} {Q : Exit → Act → World → Prop}
    {ans : List Ans} {r : ROut} {ρ : Ren} {a : Act} {w : World} (he : evDrawn c cf lim ops t h ans = some r) (hc : ∀ p ∈ r.cons, p) (RH : RelH c ρ h w) (RT : RelT ρ h.length t a)
    (hQ : ∀ ρ' a' w', ρ'.unk = ρ.unk → a'.defers = a.defers → RelT ρ' r.h.length r.t a' → RelH c ρ' r.h w' → Fr lim ρ h w ρ' r.h w' → Q .normal a' w') : (Code.region id ops true).wp c.P Q a w := by
  unfold evDrawn at he
  split at he
  · rename_i olds ans0
    split at he
    · rename_i d hd
      split at he
      · rename_i hchk
        rw [Bool.and_eq_true] at hchk
        simp only [Option.some.injEq] at he
        subst he
        obtain ⟨H, hdt⟩ := told_of hd hc
        generalize d.its = D at *
        simp only [hdt] at hQ
        have hts : a.tmps.size = t.length := by rw [RT.tmps]; simp [concs_length]
        have RHd : RelH c ρ h w.drew := ⟨RH.cell, RH.lt, RH.inj, RH.sco, RH.glob, RH.big, RH.base⟩
        have hsh := shape_to (ops := ops) ρ _ hchk.1
        have hg := H.guards ρ
        have hlt : ∀ b ∈ oldNames D, lim ≤ b ∧ b < h.length := by
          have gen : ∀ l : List AItem, (∀ (j b : Nat) (T : TypeId) (cs : List V), l[j]? = some (.old b T cs) → lim ≤ b ∧ b < h.length) → ∀ b ∈ oldNames l, lim ≤ b ∧ b < h.length := by
            intro l
            induction l with
            | nil => intro _ b hb; cases hb
            | cons x l ih =>
              intro hl b hb
              have ih' := ih (fun j b T cs hj => hl (j + 1) b T cs (by simpa using hj))
              cases x with
              | old b' T cs =>
                simp only [oldNames, List.mem_cons] at hb
                rcases hb with rfl | hb
                · exact hl 0 b T cs rfl
                · exact ih' b hb
              | _ => exact ih' b hb
          exact gen D fun j b T cs hj => (H.old RH.sco j b T cs hj).1.2
        have hnd : (R.olds (D.map (AItem.to ρ))).Nodup := by
          rw [olds_to]
          refine nodup_map _ (fun x hx y hy e => ?_) (nodupB_iff _ hchk.2)
          exact RH.inj x y (by have := (hlt x hx).1; omega) (hlt x hx).2 (hlt y hy).2 e
        have sh := R.Shape.of hsh hg hnd
        have itm : ∀ (j : Nat) (it : R.Item), (D.map (AItem.to ρ))[j]? = some it → ∃ x, D[j]? = some x ∧ x.to ρ = it := fun j it hj => by
          rw [List.getElem?_map, Option.map_eq_some_iff] at hj
          exact hj
        refine R.wp_region_grow (D.map (AItem.to ρ)) hm (by rw [hts]; exact hsh) hg hnd ?_ ?_ (fun i o it ho hi => evDrawn_steps hcf hfn hL H RHd RT sh i o it ho hi) ?_
        · intro j b T cs hj
          obtain ⟨x, hx, e⟩ := itm j _ hj
          cases x with
          | old b' T' cs' =>
            simp only [AItem.to, R.Item.old.injEq] at e
            obtain ⟨rfl, rfl, rfl⟩ := e
            obtain ⟨⟨_, k1, k2⟩, _, B, k3, k4, k5⟩ := H.old RH.sco j b' T' cs' hx
            obtain ⟨fr, k6, k7⟩ := RH.cell b' B k3
            refine ⟨(concs ρ B.cells).toArray, ?_, ?_⟩
            · show w.heap[ρ.blk b']? = _
              rw [k6, k7 (by omega), k4]
            · simp [concs_length, k5]
          | _ => simp [AItem.to] at e
        · intro i k cs T z hi hk
          obtain ⟨x, hx, e⟩ := itm i _ hi
          obtain ⟨y, hy, e'⟩ := itm k _ hk
          cases x with
          | put k' cs' =>
            simp only [AItem.to, R.Item.put.injEq] at e
            obtain ⟨rfl, rfl⟩ := e
            obtain ⟨_, T', z', k1, k2⟩ := H.puts i k' cs' hx
            rw [k1] at hy
            obtain rfl := Option.some.inj hy
            simp only [AItem.to, R.Item.new.injEq] at e'
            obtain ⟨_, rfl⟩ := e'
            simp [concs_length, k2]
          | _ => simp [AItem.to] at e
        · intro β w' F
          have hlen : (applyOlds D h ++ newBlks D 0 D).length = h.length + cntNew D := by simp [applyOlds_len, newBlks_len]
          have e1 : ∀ i, i < h.length → (⟨fun i => if i < h.length then ρ.blk i else β (newPos D (i - h.length)), ρ.unk⟩ : Ren).blk i = ρ.blk i := fun i hi => by simp [hi]
          have e2 : ∀ m, m < cntNew D → (⟨fun i => if i < h.length then ρ.blk i else β (newPos D (i - h.length)), ρ.unk⟩ : Ren).blk (h.length + m) = β (newPos D m) := fun m _ => by
            simp only
            rw [if_neg (by omega), Nat.add_sub_cancel_left]
          generalize hρ' : (⟨fun i => if i < h.length then ρ.blk i else β (newPos D (i - h.length)), ρ.unk⟩ : Ren) = ρ' at e1 e2
          have eu : ρ'.unk = ρ.unk := by rw [← hρ']
          have RT' := fin_rel (ρ' := ρ') (β := β) H RT eu e1 e2 ops.size
          have news : ∀ m, m < cntNew D → w.heap.size ≤ β (newPos D m) ∧ β (newPos D m) < w'.heap.size := fun m hm => by
            obtain ⟨T, z, hp⟩ := newPos_get D m hm
            obtain ⟨n1, n2, _⟩ := F.news (newPos D m) T (concs ρ z).toArray (by rw [List.getElem?_map, hp]; rfl)
            exact ⟨n1, n2⟩
          have hnotold : ∀ b, b < h.length → (∀ (j : Nat) (T : TypeId) (cs : List V), D[j]? ≠ some (.old b T cs)) → R.isOld ops (D.map (AItem.to ρ)) ops.size (ρ.blk b) = false := fun b hb hn => by
            unfold R.isOld
            rw [List.any_eq_false]
            intro j hj
            rw [List.getElem?_map]
            cases hit : D[j]? with
            | none => simp
            | some it =>
              cases it with
              | old b' T cs =>
                obtain ⟨⟨_, k1, k2⟩, _⟩ := H.old RH.sco j b' T cs hit
                simp only [Option.map_some, AItem.to]
                by_cases e : ρ.blk b' = ρ.blk b
                · have := RH.inj b' b (by omega) k2 hb e
                  subst this
                  exact absurd hit (hn j T cs)
                · simp [e]
              | _ => simp [AItem.to]
          have RH' : RelH c ρ' (applyOlds D h ++ newBlks D 0 D) w' := by
            refine ⟨fun i B hi => ?_, fun i hi => ?_, fun i j h1 h2 h3 h4 => ?_, fun i B hi => ?_, fun p hp => ?_, by rw [hlen]; have := RH.big; omega, fun i hi => ?_⟩
            · rcases Nat.lt_or_ge i h.length with hlt' | hge
              · rw [List.getElem?_append_left (by rw [applyOlds_len]; exact hlt')] at hi
                rcases applyOlds_get D h i B hi with ⟨j, hj⟩ | ⟨k1, k2⟩
                · have hcu := (H.old RH.sco j i _ _ hj).2.1
                  refine ⟨(0, 0), ?_, fun _ => rfl⟩
                  rw [e1 i hlt', concs_agree e1 _ hcu]
                  exact F.olds j (ρ.blk i) B.ty _ (by rw [List.getElem?_map, hj]; rfl)
                · obtain ⟨fr, k3, k4⟩ := RH.cell i B k1
                  refine ⟨fr, ?_, k4⟩
                  rw [e1 i hlt', concs_agree e1 _ (RH.sco i B k1)]
                  exact (F.kept.block _ (RH.lt i hlt') (hnotold i hlt' k2)).trans k3
              · rw [List.getElem?_append_right (by rw [applyOlds_len]; exact hge), applyOlds_len] at hi
                have hm' : i - h.length < cntNew D := by
                  rcases Nat.lt_or_ge (i - h.length) (cntNew D) with k | k
                  · exact k
                  · rw [List.getElem?_eq_none (by rw [newBlks_len]; exact k)] at hi; cases hi
                obtain ⟨⟨z, k1⟩, k2⟩ := newBlks_get D D 0 _ B hi
                rw [Nat.zero_add] at k2
                obtain ⟨j, hj⟩ := putOf_get k2
                have hcu := (H.puts j _ _ hj).1
                refine ⟨(0, 0), ?_, fun _ => rfl⟩
                have e3 := e2 _ hm'
                rw [show h.length + (i - h.length) = i by omega] at e3
                rw [e3, concs_agree e1 _ hcu]
                exact F.puts j _ _ B.ty (concs ρ z).toArray (by rw [List.getElem?_map, hj]; rfl) (by rw [List.getElem?_map, k1]; rfl)
            · rw [hlen] at hi
              rcases Nat.lt_or_ge i h.length with hlt' | hge
              · rw [e1 i hlt']; exact Nat.lt_of_lt_of_le (RH.lt i hlt') F.kept.size
              · have e3 := e2 (i - h.length) (by omega)
                rw [show h.length + (i - h.length) = i by omega] at e3
                rw [e3]; exact (news _ (by omega)).2
            · rw [hlen] at h2 h3
              rcases Nat.lt_or_ge i h.length with hi | hi <;> rcases Nat.lt_or_ge j h.length with hj | hj
              · rw [e1 i hi, e1 j hj] at h4; exact RH.inj i j h1 hi hj h4
              · have e3 := e2 (j - h.length) (by omega)
                rw [show h.length + (j - h.length) = j by omega] at e3
                rw [e1 i hi, e3] at h4
                have k1 := RH.lt i hi
                have k2 := (news (j - h.length) (by omega)).1
                omega
              · have e3 := e2 (i - h.length) (by omega)
                rw [show h.length + (i - h.length) = i by omega] at e3
                rw [e1 j hj, e3] at h4
                have k1 := RH.lt j hj
                have k2 := (news (i - h.length) (by omega)).1
                omega
              · have e3 := e2 (i - h.length) (by omega)
                have e4 := e2 (j - h.length) (by omega)
                rw [show h.length + (i - h.length) = i by omega] at e3
                rw [show h.length + (j - h.length) = j by omega] at e4
                rw [e3, e4] at h4
                obtain ⟨T, z, hp⟩ := newPos_get D (i - h.length) (by omega)
                obtain ⟨T', z', hp'⟩ := newPos_get D (j - h.length) (by omega)
                by_cases hpe : newPos D (i - h.length) = newPos D (j - h.length)
                · have := newPos_inj D _ _ (by omega) (by omega) hpe
                  omega
                · exact absurd h4 (F.apart _ _ T T' (concs ρ z).toArray (concs ρ z').toArray (by rw [List.getElem?_map, hp]; rfl) (by rw [List.getElem?_map, hp']; rfl) hpe)
            · rw [hlen]
              rcases Nat.lt_or_ge i h.length with hlt' | hge
              · rw [List.getElem?_append_left (by rw [applyOlds_len]; exact hlt')] at hi
                rcases applyOlds_get D h i B hi with ⟨j, hj⟩ | ⟨k1, k2⟩
                · exact unders_mono (by omega) _ (H.old RH.sco j i _ _ hj).2.1
                · exact unders_mono (by omega) _ (RH.sco i B k1)
              · rw [List.getElem?_append_right (by rw [applyOlds_len]; exact hge), applyOlds_len] at hi
                obtain ⟨⟨z, k1⟩, k2⟩ := newBlks_get D D 0 _ B hi
                rw [Nat.zero_add] at k2
                obtain ⟨j, hj⟩ := putOf_get k2
                exact unders_mono (by omega) _ (H.puts j _ _ hj).1
            · obtain ⟨k1, k2⟩ := RH.glob p hp
              exact ⟨by rw [e1 _ k2, k1], by rw [hlen]; omega⟩
            · rw [List.getElem?_append_left (by rw [applyOlds_len]; have := RH.big; omega), applyOlds_low D i (fun b hb => by have := (hlt b hb).1; omega), RH.base i hi]
          have F' : Fr lim ρ h w ρ' (applyOlds D h ++ newBlks D 0 D) w' := by
            refine ⟨F.kept.os, F.kept.tape, F.kept.output, F.kept.size, fun k hk hn => ?_, e1, by rw [hlen]; omega, fun i h1 h2 => ?_⟩
            · refine F.kept.block k hk ?_
              unfold R.isOld
              rw [List.any_eq_false]
              intro j hj
              rw [List.getElem?_map]
              cases hit : D[j]? with
              | none => simp
              | some it =>
                cases it with
                | old b' T cs =>
                  obtain ⟨⟨_, k1, k2⟩, _⟩ := H.old RH.sco j b' T cs hit
                  have := hn b' k1 k2
                  simp [AItem.to, this]
                | _ => simp [AItem.to]
            · rw [hlen] at h2
              have e3 := e2 (i - h.length) (by omega)
              rw [show h.length + (i - h.length) = i by omega] at e3
              rw [e3]
              exact (news _ (by omega)).1
          rw [← hlen] at RT'
          exact hQ ρ' _ w' eu (R.finAct_size _).2 RT' RH' F'
      · cases he
    · cases he
  · cases he
end
end
end Go.Proofs.Ytlgabdamgalngaa.E

/-
  The reckoner is right: bodies and functions.
-/
namespace Go.Proofs.Ytlgabdamgalngaa.E
open Go Go.RowKit
section
variable {c : Cfg} {lim : Nat}

theorem Runs.go {code : Code} {t t' : List V} {h h' : Heap} {e : Ex} (hr : Runs c lim code t h e t' h') {ρ : Ren} {a : Act} {w : World} (RT : RelT ρ h.length t a) (RH : RelH c ρ h w) {Q : Exit → Act → World → Prop}
    (hQ : ∀ ρ' a' w', a'.defers = a.defers → RelT ρ' h'.length t' a' → RelH c ρ' h' w' → Fr lim ρ h w ρ' h' w' → Q e.to a' w') : code.wp c.P Q a w :=
  wp_mono (hr ρ a w RT RH) fun x a' w' ⟨hx, ρ', h1, h2, h3, h4⟩ => by subst hx; exact hQ ρ' a' w' h1 h2 h3 h4

theorem iter_sound {x : Code} {body : List V → Heap → List Ans → Option COut} (hb : ∀ t h ans r, body t h ans = some r → (∀ p ∈ r.cons, p) → Runs c lim x t h r.e r.t r.h) :
    ∀ (n : Nat) (t : List V) (h : Heap) (ans : List Ans) (r : COut), iter body n t h ans = some r → (∀ p ∈ r.cons, p) → ∀ (ρ : Ren) (a : Act) (w : World), RelT ρ h.length t a → RelH c ρ h w → ∀ Q : Exit → Act → World → Prop,
      (∀ ρ' a' w', a'.defers = a.defers → RelT ρ' r.h.length r.t a' → RelH c ρ' r.h w' → Fr lim ρ h w ρ' r.h w' → r.e ≠ .normal → Q r.e.to a' w') → Code.rounds c.P x Q n a w := by
  intro n
  induction n with
  | zero => intro t h ans r he; simp [iter] at he
  | succ n ih =>
    intro t h ans r he hc ρ a w RT RH Q hQ
    simp only [iter] at he
    split at he
    · cases he
    · rename_i r1 hr1
      rw [rounds_succ]
      split at he
      · rename_i hn
        split at he
        · cases he
        · rename_i q hq
          simp only [Option.some.injEq] at he
          subst he
          refine (hb _ _ _ _ hr1 (fun p hp => hc p (List.mem_append_left _ hp))).go RT RH fun ρ1 a1 w1 d1 RT1 RH1 F1 => ?_
          rw [hn]
          exact ih _ _ _ q hq (fun p hp => hc p (List.mem_append_right _ hp)) ρ1 a1 w1 RT1 RH1 Q fun ρ' a' w' d' RT' RH' F' hne => hQ ρ' a' w' (d'.trans d1) RT' RH' (F1.trans F') hne
      · rename_i hne
        simp only [Option.some.injEq] at he
        subst he
        refine (hb _ _ _ _ hr1 hc).go RT RH fun ρ1 a1 w1 d1 RT1 RH1 F1 => ?_
        have := hQ ρ1 a1 w1 d1 RT1 RH1 F1 hne
        cases he : r1.e with
        | normal => exact absurd he hne
        | exit i => rw [he] at this; exact this
        | ret => rw [he] at this; exact this

theorem litOf_eval {ρ : Ren} {h : Heap} {w : World} {t : List V} {a : Act} (RH : RelH c ρ h w) (RT : RelT ρ h.length t a) {x : Operand} {b : Bool} (hx : litOf t x = some b) : a.eval x = .bool b := by
  unfold litOf at hx
  split at hx
  · rename_i s
    split at hx
    · rename_i b' hb
      simp only [Option.some.injEq] at hx
      subst hx
      have := opnd_eval (c := c) (x := .tmp s) (v := .raw (.bool b')) RH RT (by simp [opnd, hb])
      exact this
    · cases hx
  · cases hx

theorem evCode_sound (hm : c.P.follows .mixedOrders = true) {cf : CallF} (hcf : CallOk c cf) (hfn : ∀ f, c.fns f = true → Callable c.P f) (hL : c.L ≤ lim) :
    ∀ (code : Code) (t : List V) (h : Heap) (ans : List Ans) (r : COut), evCode c cf lim code t h ans = some r → (∀ p ∈ r.cons, p) → Runs c lim code t h r.e r.t r.h := by
  intro code
  induction code with
  | skip =>
    intro t h ans r he hc
    simp only [evCode, Option.some.injEq] at he
    subst he
    exact fun ρ a w RT RH => wp_skip ⟨rfl, ρ, rfl, RT, RH, Fr.refl _ _ _ _⟩
  | label l =>
    intro t h ans r he hc
    simp only [evCode, Option.some.injEq] at he
    subst he
    exact fun ρ a w RT RH => wp_label ⟨rfl, ρ, rfl, RT, RH, Fr.refl _ _ _ _⟩
  | exit id =>
    intro t h ans r he hc
    simp only [evCode, Option.some.injEq] at he
    subst he
    exact fun ρ a w RT RH => wp_exit ⟨rfl, ρ, rfl, RT, RH, Fr.refl _ _ _ _⟩
  | ret =>
    intro t h ans r he hc
    simp only [evCode, Option.some.injEq] at he
    subst he
    exact fun ρ a w RT RH => wp_ret ⟨rfl, ρ, rfl, RT, RH, Fr.refl _ _ _ _⟩
  | region id ops draws =>
    intro t h ans r he hc
    simp only [evCode] at he
    split at he
    · rename_i q hq
      simp only [Option.some.injEq] at he
      subst he
      intro ρ a w RT RH
      cases draws with
      | true => exact evDrawn_sound hm hcf hfn hL hq hc RH RT fun ρ' a' w' _ h1 h2 h3 h4 => ⟨rfl, ρ', h1, h2, h3, h4⟩
      | false => exact wp_region_list (evOps_sound hcf hfn hL _ _ _ _ _ ρ a w hq hc RH RT fun ρ' a' w' _ h1 h2 h3 h4 => ⟨rfl, ρ', h1, h2, h3, h4⟩)
    · cases he
  | seq x y ihx ihy =>
    intro t h ans r he hc
    simp only [evCode] at he
    split at he
    · cases he
    · rename_i r1 hr1
      split at he
      · rename_i hn
        split at he
        · cases he
        · rename_i q hq
          simp only [Option.some.injEq] at he
          subst he
          intro ρ a w RT RH
          refine wp_seq ((ihx _ _ _ _ hr1 (fun p hp => hc p (List.mem_append_left _ hp))).go RT RH fun ρ1 a1 w1 d1 RT1 RH1 F1 => ?_)
          rw [hn]
          exact (ihy _ _ _ _ hq (fun p hp => hc p (List.mem_append_right _ hp))).go RT1 RH1 fun ρ2 a2 w2 d2 RT2 RH2 F2 => ⟨rfl, ρ2, d2.trans d1, RT2, RH2, F1.trans F2⟩
      · rename_i hne
        simp only [Option.some.injEq] at he
        subst he
        intro ρ a w RT RH
        refine wp_seq ((ihx _ _ _ _ hr1 hc).go RT RH fun ρ1 a1 w1 d1 RT1 RH1 F1 => ?_)
        cases he : r1.e with
        | normal => exact absurd he hne
        | exit i => exact ⟨rfl, ρ1, d1, RT1, RH1, F1⟩
        | ret => exact ⟨rfl, ρ1, d1, RT1, RH1, F1⟩
  | cond x y z ihy ihz =>
    intro t h ans r he hc
    simp only [evCode] at he
    split at he
    · rename_i hl
      intro ρ a w RT RH
      refine wp_cond (litOf_eval RH RT hl) ?_
      exact ihy _ _ _ _ he hc ρ a w RT RH
    · rename_i hl
      intro ρ a w RT RH
      refine wp_cond (litOf_eval RH RT hl) ?_
      exact ihz _ _ _ _ he hc ρ a w RT RH
    · split at he
      · rename_i b hb
        split at he
        · rename_i q ans'
          split at he
          · cases he
          · rename_i r1 hr1
            simp only [Option.some.injEq] at he
            subst he
            have hbq : b = q := hc _ List.mem_cons_self
            subst hbq
            intro ρ a w RT RH
            have hev := opnd_eval RH RT hb
            refine wp_cond hev ?_
            cases b with
            | true => exact ihy _ _ _ _ hr1 (fun p hp => hc p (List.mem_cons_of_mem _ hp)) ρ a w RT RH
            | false => exact ihz _ _ _ _ hr1 (fun p hp => hc p (List.mem_cons_of_mem _ hp)) ρ a w RT RH
        · cases he
      · cases he
  | block id x ih =>
    intro t h ans r he hc
    simp only [evCode] at he
    split at he
    · cases he
    · rename_i r1 hr1
      simp only [Option.some.injEq] at he
      subst he
      intro ρ a w RT RH
      refine wp_block ((ih _ _ _ _ hr1 hc).go RT RH fun ρ1 a1 w1 d1 RT1 RH1 F1 => ?_)
      cases he : r1.e with
      | normal => exact ⟨rfl, ρ1, d1, RT1, RH1, F1⟩
      | ret => exact ⟨rfl, ρ1, d1, RT1, RH1, F1⟩
      | exit i =>
        simp only [Ex.to, Exit.inBlock]
        by_cases hi : i = id
        · rw [if_pos hi]
          exact ⟨by simp [hi, Ex.to], ρ1, d1, RT1, RH1, F1⟩
        · rw [if_neg hi]
          exact ⟨by simp [hi, Ex.to], ρ1, d1, RT1, RH1, F1⟩
  | scope x ih =>
    intro t h ans r he hc
    simp only [evCode] at he
    intro ρ a w RT RH
    refine wp_scope_straight ((ih _ _ _ _ he hc).go RT RH fun ρ1 a1 w1 d1 RT1 RH1 F1 => ?_)
    cases he : r.e with
    | normal => exact ⟨rfl, ρ1, d1, RT1, RH1, F1⟩
    | ret => exact ⟨rfl, ρ1, d1, RT1, RH1, F1⟩
    | exit i => exact ⟨rfl, ρ1, d1, RT1, RH1, F1⟩
  | loop x ih =>
    intro t h ans r he hc
    simp only [evCode] at he
    split at he
    · simp only [Option.some.injEq] at he
      subst he
      exact hc _ List.mem_cons_self
    · intro ρ a w RT RH
      exact wp_loop_rounds 200 (iter_sound ih _ _ _ _ _ he hc ρ a w RT RH _ fun ρ' a' w' d' RT' RH' F' _ => ⟨rfl, ρ', d', RT', RH', F'⟩)
  | rangeFunc x y z u => intro t h ans r he; simp [evCode] at he
  | goto l => intro t h ans r he; simp [evCode] at he
  | refuse s => intro t h ans r he; simp [evCode] at he

theorem results_list {ρ : Ren} {h : Heap} {w : World} {t : List V} {a : Act} (RH : RelH c ρ h w) (RT : RelT ρ h.length t a) (F : ResultVar → Sem Value)
    (hF1 : ∀ s, F (.tmp s) = pure (a.tmps.getD s undef)) (hF2 : ∀ s T, F (.cell s T) = (asAddr (a.tmps.getD s undef) >>= fun q => loadVar T q)) : ∀ (l : List ResultVar) (vs : List V), resultsV c t h l = some vs →
    (l.mapM F).run c.P w = .ok (concs ρ vs) w ∧ unders h.length vs = true
  | [], vs, he => by
    simp only [resultsV, Option.some.injEq] at he
    subst he
    exact ⟨rfl, rfl⟩
  | .tmp s :: l, vs, he => by
    simp only [resultsV] at he
    split at he
    · rename_i v us hv hus
      simp only [Option.some.injEq] at he
      subst he
      obtain ⟨h1, h2⟩ := results_list RH RT F hF1 hF2 l us hus
      have e1 := opnd_eval RH RT hv
      simp only [Act.eval] at e1
      refine ⟨?_, by simp [unders, h2, opnd_under RH RT hv]⟩
      simp only [List.mapM_cons, concs, hF1, e1]
      simp [go_sem, h1]
    · cases he
  | .cell s T :: l, vs, he => by
    simp only [resultsV] at he
    split at he
    · rename_i b off hv
      split at he
      · rename_i v us hl hus
        simp only [Option.some.injEq] at he
        subst he
        obtain ⟨h1, h2⟩ := results_list RH RT F hF1 hF2 l us hus
        obtain ⟨h3, h4⟩ := load_conc RH hl
        have e1 := opnd_eval RH RT hv
        simp only [Act.eval, V.conc] at e1
        refine ⟨?_, by simp [unders, h2, h4]⟩
        have e2 : F (.cell s T) = loadVar T ⟨ρ.blk b, off, none⟩ := by rw [hF2, e1]; rfl
        simp only [List.mapM_cons, concs, e2]
        generalize loadVar T ⟨ρ.blk b, off, none⟩ = q at h3 ⊢
        simp [go_sem, h1, h3]
      · cases he
    · cases he

theorem oneOf_ok {ρ : Ren} {n : Nat} {vs : List V} (hu : unders n vs = true) : (oneOf vs).conc ρ = (if h : (concs ρ vs).toArray.size = 1 then (concs ρ vs).toArray[0] else Value.tuple (concs ρ vs).toArray) ∧ (oneOf vs).under n = true := by
  match vs, hu with
  | [], _ => exact ⟨by simp [oneOf, mkTup_conc, concs], rfl⟩
  | [v], hu =>
    refine ⟨by simp [oneOf, concs], ?_⟩
    simp only [unders, Bool.and_true] at hu
    exact hu
  | v :: u :: l, hu => exact ⟨by simp [oneOf, mkTup_conc, concs], mkTup_under hu⟩

theorem results_ok {ρ : Ren} {h : Heap} {w : World} {t : List V} {a : Act} (RH : RelH c ρ h w) (RT : RelT ρ h.length t a) {fn : Func} {vs : List V} (hv : resultsV c t h fn.results.toList = some vs) :
    (results fn a.tmps).run c.P w = .ok ((oneOf vs).conc ρ) w ∧ (oneOf vs).under h.length = true := by
  unfold results
  obtain ⟨h1, h2⟩ := results_list RH RT (fun x => match x with
    | ResultVar.tmp t => pure (a.tmps.getD t undef)
    | ResultVar.cell s T => do
      let q ← asAddr (a.tmps.getD s undef)
      loadVar T q) (fun _ => rfl) (fun _ _ => rfl) _ _ hv
  obtain ⟨h3, h4⟩ := oneOf_ok (ρ := ρ) h2
  refine ⟨?_, h4⟩
  rw [h3]
  simp only [Array.mapM_eq_mapM_toList]
  generalize hq : List.mapM (m := Sem) _ fn.results.toList = q at h1
  clear hq
  simp [go_sem, h1]

theorem evFunc_sound (hm : c.P.follows .mixedOrders = true) (hfn : ∀ f, c.fns f = true → Callable c.P f) : ∀ n, CallOk c (evFunc c n) := by
  intro n
  induction n with
  | zero => intro f args h lim ans out he; simp [evFunc] at he
  | succ n ih =>
    intro f args h lim ans out he hc hL ρ w RH hu
    simp only [evFunc] at he
    split at he
    · simp only [Option.some.injEq] at he
      subst he
      exact (hc _ List.mem_cons_self) _ _ hL ρ w RH hu
    · simp only [Option.some.injEq] at he
      subst he
      exact (hc _ List.mem_cons_self) ρ w RH hu
    · split at he
      · cases he
      · rename_i fn hf
        split at he
        · cases he
        · rename_i code hb
          split at he
          · cases he
          · rename_i r hr
            have fin : ∀ {vs : List V}, r.e ≠ .exit 0 ∧ (∀ i, r.e ≠ .exit i) → resultsV c r.t r.h fn.results.toList = some vs → out = ⟨oneOf vs, r.h, r.ans, r.cons⟩ →
                Calls c.P f (concs ρ args).toArray w fun e w' => ∃ ρ', ρ'.unk = ρ.unk ∧ e = .returned (out.v.conc ρ') ∧ RelH c ρ' out.h w' ∧ Fr lim ρ h w ρ' out.h w' ∧ out.v.under out.h.length = true := by
              intro vs hne hvs ho
              subst ho
              have hrun := evCode_sound hm ih hfn hL code _ _ _ _ hr hc
              have htm : (concs ρ args).toArray ++ Array.replicate (fn.ntmps - (concs ρ args).toArray.size) undef = (concs ρ (args ++ List.replicate (fn.ntmps - args.length) (.raw undef))).toArray := by
                apply Array.toList_inj.1
                simp [concs_map, V.conc]
              refine calls_of_wp hf hb ?_
              rw [htm]
              refine hrun.go (ρ := ρ) ⟨rfl, fun x hx => ?_⟩ RH fun ρ1 a1 w1 d1 RT1 RH1 F1 => ?_
              · rcases List.mem_append.1 hx with h1 | h1
                · exact V.slot_of_under _ ((unders_iff _ _).1 hu x h1)
                · rw [List.eq_of_mem_replicate h1]; rfl
              · obtain ⟨h1, h2⟩ := results_ok RH1 RT1 hvs
                have hag : ∀ i, i < r.h.length → (⟨ρ1.blk, ρ.unk⟩ : Ren).blk i = ρ1.blk i := fun _ _ => rfl
                have hR : ∃ ρ', ρ'.unk = ρ.unk ∧ Ending.returned ((oneOf vs).conc ρ1) = .returned ((oneOf vs).conc ρ') ∧ RelH c ρ' r.h w1 ∧ Fr lim ρ h w ρ' r.h w1 ∧ (oneOf vs).under r.h.length = true := by
                  refine ⟨⟨ρ1.blk, ρ.unk⟩, rfl, by rw [V.conc_agree hag _ h2], ⟨fun i B hi => ?_, RH1.lt, RH1.inj, RH1.sco, RH1.glob, RH1.big, RH1.base⟩, ⟨F1.os, F1.tape, F1.output, F1.size, F1.blk, F1.ren, F1.len, F1.fresh⟩, h2⟩
                  obtain ⟨fr, k1, k2⟩ := RH1.cell i B hi
                  exact ⟨fr, by rw [concs_agree hag _ (RH1.sco i B hi)]; exact k1, k2⟩
                cases he : r.e with
                | exit i => exact absurd he (hne.2 i)
                | normal => exact ⟨d1, _, h1, hR⟩
                | ret => exact ⟨d1, _, h1, hR⟩
            split at he
            · cases he
            · rename_i hne
              split at he
              · cases he
              · rename_i vs hvs
                simp only [Option.some.injEq] at he
                exact fin ⟨hne 0, hne⟩ hvs he.symm
    · cases he

/-- A list of debts, paid one by one. -/
def Paid : List Prop → Prop
  | [] => True
  | p :: l => p ∧ Paid l
theorem Paid.all : ∀ {l : List Prop}, Paid l → ∀ p ∈ l, p
  | [], _, p, hp => by cases hp
  | q :: l, h, p, hp => by
    rcases List.mem_cons.1 hp with rfl | hp
    · exact h.1
    · exact Paid.all h.2 p hp
/-- What a reckoning says of a function. -/
theorem meets_of (hm : c.P.follows .mixedOrders = true) (hfn : ∀ f, c.fns f = true → Callable c.P f) (hL : c.L ≤ lim) {n : Nat} {f : FuncId} {args : List V} {h h' : Heap} {ans ans' : List Ans} {v : V} {cons : List Prop}
    (he : evFunc c n f args h lim ans = some ⟨v, h', ans', cons⟩) (hc : Paid cons) : Meets c lim f args h v h' :=
  fun ρ w RH hu => evFunc_sound hm hfn n f args h lim ans _ he (fun p hp => hc.all p hp) hL ρ w RH hu
end
end Go.Proofs.Ytlgabdamgalngaa.E

/-
  What a reckoning says of a function, whatever the heap; and the way from and to contracts on calls.
-/
namespace Go.Proofs.Ytlgabdamgalngaa.E
open Go Go.RowKit
section
variable {c : Cfg}

theorem fn_of_base (hH : c.H0.length = c.L) (hsc : ∀ (i : Nat) (B : Blk), c.H0[i]? = some (some B) → unders c.L B.cells = true) (hG : ∀ p ∈ c.G, p.2 < c.L) {f : FuncId} {args : List V} {v : V} {h' : Heap}
    (hua : unders c.L args = true) (hv : v.under c.L = true) (hm : Meets c c.L f args c.H0 v h') : Ret c f args v := by
  intro h lim hL ρ w RH hu
  have R0 : RelH c ρ c.H0 w := by
    have hget : ∀ (i : Nat), i < c.L → h[i]? = c.H0[i]? := RH.base
    have hlt : ∀ {i : Nat} {x : Option Blk}, c.H0[i]? = some x → i < c.L := fun {i x} hi => by
      rcases Nat.lt_or_ge i c.H0.length with k | k
      · omega
      · rw [List.getElem?_eq_none k] at hi; cases hi
    refine ⟨fun i B hi => RH.cell i B (by rw [hget i (hlt hi)]; exact hi), fun i hi => RH.lt i (by have := RH.big; omega), fun i j h1 h2 h3 h4 => by omega, fun i B hi => by rw [hH]; exact hsc i B hi, fun p hp => ⟨(RH.glob p hp).1, by rw [hH]; exact hG p hp⟩, by omega, fun _ _ => rfl⟩
  refine (hm ρ w R0 (by rw [hH]; exact hua)).mono fun e w' he => ?_
  obtain ⟨ρ', h1, h2, h3, h4, h5⟩ := he
  have hblk : ∀ k, k < w.heap.size → w'.heap[k]? = w.heap[k]? := fun k hk => h4.blk k hk fun i h6 h7 => by omega
  have e1 : v.conc ρ' = v.conc ρ := V.conc_agree (n := c.L) (fun i hi => h4.ren i (by omega)) v hv
  refine ⟨ρ, rfl, by rw [← e1]; exact h2, ⟨fun i B hi => ?_, fun i hi => Nat.lt_of_lt_of_le (RH.lt i hi) h4.size, RH.inj, RH.sco, RH.glob, RH.big, RH.base⟩, ⟨h4.os, h4.tape, h4.output, h4.size, fun k hk _ => hblk k hk, fun _ _ => rfl, Nat.le_refl _, fun i h6 h7 => by omega⟩, V.under_mono RH.big v hv⟩
  obtain ⟨fr, k1, k2⟩ := RH.cell i B hi
  refine ⟨fr, ?_, k2⟩
  rw [hblk _ (RH.lt i ?_), k1]
  rcases Nat.lt_or_ge i h.length with k | k
  · exact k
  · rw [List.getElem?_eq_none k] at hi; cases hi

theorem fn_of (hm : c.P.follows .mixedOrders = true) (hfn : ∀ f, c.fns f = true → Callable c.P f) (hH : c.H0.length = c.L) (hsc : ∀ (i : Nat) (B : Blk), c.H0[i]? = some (some B) → unders c.L B.cells = true) (hG : ∀ p ∈ c.G, p.2 < c.L)
    {n : Nat} {f : FuncId} {args : List V} {ans : List Ans} {v : V} {cons : List Prop} (he : (evFunc c n f args c.H0 c.L ans).map (fun o => (o.v, o.cons)) = some (v, cons)) (hua : unders c.L args = true) (hv : v.under c.L = true) (hc : Paid cons) : Ret c f args v := by
  rw [Option.map_eq_some_iff] at he
  obtain ⟨o, h1, h2⟩ := he
  obtain ⟨v', h', ans', cons'⟩ := o
  simp only [Prod.mk.injEq] at h2
  obtain ⟨rfl, rfl⟩ := h2
  exact fn_of_base hH hsc hG hua hv (meets_of hm hfn (Nat.le_refl _) h1 hc)

/-- From a contract on calls. -/
theorem fn_of_calls {f : FuncId} {args : List Value} {x : Value} (h : ∀ w : World, Calls c.P f args.toArray w fun e w' => e = .returned x ∧ Below w.heap.size w w') : Ret c f (args.map .raw) (.raw x) := by
  intro h0 lim hL ρ w RH hu
  rw [concs_raw]
  refine (h w).mono fun e w' he => ?_
  obtain ⟨rfl, hb⟩ := he
  refine ⟨ρ, rfl, rfl, ⟨fun i B hi => ?_, fun i hi => Nat.lt_of_lt_of_le (RH.lt i hi) hb.size, RH.inj, RH.sco, RH.glob, RH.big, RH.base⟩, ⟨hb.os, hb.tape, hb.output, hb.size, fun k hk _ => hb.block k hk, fun _ _ => rfl, Nat.le_refl _, fun i h6 h7 => by omega⟩, rfl⟩
  obtain ⟨fr, k1, k2⟩ := RH.cell i B hi
  refine ⟨fr, ?_, k2⟩
  rw [hb.block _ (RH.lt i ?_), k1]
  rcases Nat.lt_or_ge i h0.length with k | k
  · exact k
  · rw [List.getElem?_eq_none k] at hi; cases hi

/-- To a contract on calls, where nothing lay there that has a name. -/
theorem calls_of_fn (hL : c.L = 0) (hG : c.G = []) {f : FuncId} {args : List Value} {x : Value} (h : Ret c f (args.map .raw) (.raw x)) (w : World) : Calls c.P f args.toArray w fun e w' => e = .returned x ∧ Below w.heap.size w w' := by
  have R0 : RelH c ⟨fun _ => 0, fun _ => undef⟩ [] w := ⟨fun i B hi => by simp at hi, fun i hi => by simp at hi, fun i j _ h2 => by simp at h2, fun i B hi => by simp at hi, fun p hp => (by rw [hG] at hp; cases hp), by simp [hL], fun i hi => by omega⟩
  have := h [] 0 (by omega) _ w R0 (unders_raw _ _)
  rw [concs_raw] at this
  refine this.mono fun e w' he => ?_
  obtain ⟨ρ', _, rfl, _, F, _⟩ := he
  exact ⟨rfl, F.os, F.tape, F.output, F.size, fun k hk => F.blk k hk fun i _ h2 => by simp at h2⟩

theorem inR_i64 {n : Int} (h1 : -9223372036854775808 ≤ n) (h2 : n ≤ 9223372036854775807) : inR .i64 n := IntWalk.i64_in n (by omega)
end
end Go.Proofs.Ytlgabdamgalngaa.E

/-
  Loops of the reckoner: rounds, what is forgotten between them, and how a loop is entered.
-/
namespace Go.Proofs.Ytlgabdamgalngaa.E
open Go Go.RowKit
section
variable {c : Cfg} {lim : Nat} {x : Code}

def Rounds (c : Cfg) (lim : Nat) (x : Code) (n : Nat) (t : List V) (h : Heap) (e : Ex) (t' : List V) (h' : Heap) : Prop :=
  ∀ ρ a w, RelT ρ h.length t a → RelH c ρ h w → ∀ Q : Exit → Act → World → Prop,
    (∀ ρ' a' w', a'.defers = a.defers → RelT ρ' h'.length t' a' → RelH c ρ' h' w' → Fr lim ρ h w ρ' h' w' → Q e.to a' w') → Code.rounds c.P x Q n a w
theorem rounds_done {t t' : List V} {h h' : Heap} {e : Ex} (hr : Runs c lim x t h e t' h') (he : e ≠ .normal) : Rounds c lim x 1 t h e t' h' := by
  intro ρ a w RT RH Q hQ
  rw [rounds_succ]
  refine hr.go RT RH fun ρ' a' w' d RT' RH' F => ?_
  have := hQ ρ' a' w' d RT' RH' F
  cases e with
  | normal => exact absurd rfl he
  | exit i => exact this
  | ret => exact this
theorem rounds_more {t t1 t' : List V} {h h1 h' : Heap} {e : Ex} {n : Nat} (hr : Runs c lim x t h .normal t1 h1) (hs : Rounds c lim x n t1 h1 e t' h') : Rounds c lim x (n + 1) t h e t' h' := by
  intro ρ a w RT RH Q hQ
  rw [rounds_succ]
  refine hr.go RT RH fun ρ1 a1 w1 d1 RT1 RH1 F1 => ?_
  exact hs ρ1 a1 w1 RT1 RH1 Q fun ρ' a' w' d RT' RH' F => hQ ρ' a' w' (d.trans d1) RT' RH' (F1.trans F)
theorem runs_loop {t t' : List V} {h h' : Heap} {e : Ex} {n : Nat} (hr : Rounds c lim x n t h e t' h') : Runs c lim (.loop x) t h e t' h' := by
  intro ρ a w RT RH
  exact wp_loop_rounds n (hr ρ a w RT RH _ fun ρ' a' w' d RT' RH' F => ⟨rfl, ρ', d, RT', RH', F⟩)

/-- Slots whose values are not known any more. -/
def forgetAt (ds : List Nat) (t : List V) : List V := ds.foldl (fun t i => t.set i (.any i)) t
def anyOwn : Nat → List V → Bool
  | _, [] => true
  | i, .any j :: l => decide (j = i) && anyOwn (i + 1) l
  | i, _ :: l => anyOwn (i + 1) l
theorem anyOwn_get : ∀ (l : List V) (k i j : Nat), anyOwn k l = true → l[i]? = some (.any j) → j = k + i
  | [], k, i, j, h, hg => by simp at hg
  | v :: l, k, 0, j, h, hg => by
    simp only [List.getElem?_cons_zero, Option.some.injEq] at hg
    subst hg
    simp only [anyOwn, Bool.and_eq_true, decide_eq_true_eq] at h
    omega
  | v :: l, k, i + 1, j, h, hg => by
    simp only [List.getElem?_cons_succ] at hg
    have h' : anyOwn (k + 1) l = true := by
      cases v with
      | any q => simp only [anyOwn, Bool.and_eq_true] at h; exact h.2
      | _ => simpa only [anyOwn] using h
    have := anyOwn_get l (k + 1) i j h' hg
    omega
theorem forgetAt_length : ∀ (ds : List Nat) (t : List V), (forgetAt ds t).length = t.length
  | [], t => rfl
  | d :: ds, t => by
    show (forgetAt ds (t.set d (.any d))).length = t.length
    rw [forgetAt_length ds, List.length_set]
theorem forgetAt_get : ∀ (ds : List Nat) (t : List V) (i : Nat), (forgetAt ds t)[i]? = t[i]? ∨ ((forgetAt ds t)[i]? = some (.any i) ∧ i < t.length)
  | [], t, i => Or.inl rfl
  | d :: ds, t, i => by
    show (forgetAt ds (t.set d (.any d)))[i]? = t[i]? ∨ ((forgetAt ds (t.set d (.any d)))[i]? = some (.any i) ∧ i < t.length)
    rcases forgetAt_get ds (t.set d (.any d)) i with h | h
    · rw [h]
      rw [List.getElem?_set]
      by_cases hd : d = i
      · subst hd
        rw [if_pos rfl]
        by_cases hl : d < t.length
        · right; rw [if_pos hl]; exact ⟨rfl, hl⟩
        · left; rw [if_neg hl, List.getElem?_eq_none (by omega)]
      · left; rw [if_neg hd]
    · right; rw [List.length_set] at h; exact h

theorem relT_forget {ρ : Ren} {n m : Nat} {t : List V} {a : Act} (RT : RelT ρ n t a) (ds : List Nat) (ho : anyOwn 0 (forgetAt ds t) = true) (hs : (forgetAt ds t).all (·.slotOk m) = true) : RelT ⟨ρ.blk, fun i => a.tmps.getD i undef⟩ m (forgetAt ds t) a := by
  refine ⟨?_, fun x hx => List.all_eq_true.1 hs x hx⟩
  apply Array.toList_inj.1
  apply List.ext_getElem?
  intro i
  rw [concs_get]
  have h0 : a.tmps.toList[i]? = (t[i]?).map (·.conc ρ) := by rw [RT.tmps]; exact concs_get ρ t i
  rw [h0]
  rcases forgetAt_get ds t i with h | ⟨h, hl⟩
  · rw [h]
    cases hv : t[i]? with
    | none => rfl
    | some v =>
      simp only [Option.map_some, Option.some.injEq]
      cases v with
      | any j =>
        have hj := anyOwn_get _ 0 i j ho (h.trans hv)
        simp only [Nat.zero_add] at hj
        subst hj
        rw [hv] at h0
        simp only [Option.map_some] at h0
        simp only [V.conc, Array.getD_eq_getD_getElem?]
        rw [← Array.getElem?_toList, h0]
        rfl
      | _ => exact (V.conc_agree (n := n) (ρ := ρ) (ρ' := ⟨ρ.blk, fun i => a.tmps.getD i undef⟩) (fun _ _ => rfl) _ (RT.sco _ (List.mem_of_getElem? hv))).symm
  · rw [h]
    have : ∃ v, t[i]? = some v := ⟨_, List.getElem?_eq_getElem hl⟩
    obtain ⟨v, hv⟩ := this
    rw [hv] at h0 ⊢
    simp only [Option.map_some, V.conc, Array.getD_eq_getD_getElem?]
    simp only [Option.map_some] at h0
    rw [← Array.getElem?_toList, h0]
    rfl
theorem relH_unk {ρ : Ren} {h : Heap} {w : World} (RH : RelH c ρ h w) (u : Nat → Value) : RelH c ⟨ρ.blk, u⟩ h w :=
  ⟨fun i B hi => by
    obtain ⟨fr, h1, h2⟩ := RH.cell i B hi
    exact ⟨fr, by rw [concs_agree (n := h.length) (ρ := ρ) (ρ' := ⟨ρ.blk, u⟩) (fun _ _ => rfl) _ (RH.sco i B hi)]; exact h1, h2⟩, RH.lt, RH.inj, RH.sco, RH.glob, RH.big, RH.base⟩
/-- A loop is entered where some slots hold what nobody asks for. -/
theorem runs_enter {code : Code} {t T t' : List V} {h h' : Heap} {e : Ex} (ds : List Nat) (hT : forgetAt ds t = T) (ho : anyOwn 0 T = true) (hs : T.all (·.slotOk h.length) = true) (hr : Runs c lim code T h e t' h') : Runs c lim code t h e t' h' := by
  subst hT
  intro ρ a w RT RH
  refine wp_mono (hr _ a w (relT_forget RT ds ho hs) (relH_unk RH _)) fun x a' w' ⟨h1, ρ', h2, h3, h4, h5⟩ => ⟨h1, ρ', h2, h3, h4, ?_⟩
  exact ⟨h5.os, h5.tape, h5.output, h5.size, h5.blk, h5.ren, h5.len, h5.fresh⟩
/-- Names that nobody holds any more, and slots that nobody asks for, are dropped. -/
theorem runs_drop {code : Code} {t t1 : List V} {h h1 : Heap} {e : Ex} (hr : Runs c lim code t h e t1 h1) (ds : List Nat) (hm : h.length ≤ h1.length)
    (hc : ((h1.take h.length).all fun b => match b with
      | some B => unders h.length B.cells
      | none => true) = true) (ho : anyOwn 0 (forgetAt ds t1) = true) (hs : (forgetAt ds t1).all (·.slotOk h.length) = true) : Runs c lim code t h e (forgetAt ds t1) (h1.take h.length) := by
  intro ρ a w RT RH
  refine wp_mono (hr ρ a w RT RH) fun x a' w' ⟨e1, ρ', e2, RT', RH', F⟩ => ⟨e1, ⟨ρ'.blk, fun i => a'.tmps.getD i undef⟩, e2, ?_, ?_, ?_⟩
  · have hl : (h1.take h.length).length = h.length := by rw [List.length_take]; omega
    rw [hl]
    exact relT_forget RT' ds ho hs
  · have hl : (h1.take h.length).length = h.length := by rw [List.length_take]; omega
    have hg : ∀ {i : Nat} {b : Option Blk}, (h1.take h.length)[i]? = some b → h1[i]? = some b ∧ i < h.length := fun {i b} hi => by
      have hil : i < (h1.take h.length).length := by
        rcases Nat.lt_or_ge i (h1.take h.length).length with k | k
        · exact k
        · rw [List.getElem?_eq_none k] at hi; cases hi
      rw [List.getElem?_take, if_pos (by omega)] at hi
      exact ⟨hi, by omega⟩
    refine relH_unk ⟨fun i B hi => RH'.cell i B (hg hi).1, fun i hi => RH'.lt i (by omega), fun i j k1 k2 k3 k4 => RH'.inj i j k1 (by omega) (by omega) k4, fun i B hi => ?_, fun p hp => ⟨(RH'.glob p hp).1, by rw [hl]; exact (RH.glob p hp).2⟩, by rw [hl]; exact RH.big, fun i hi => ?_⟩ _
    · rw [hl]
      have := List.all_eq_true.1 hc _ (List.mem_of_getElem? hi)
      exact this
    · rw [List.getElem?_take, if_pos (by have := RH.big; omega)]
      exact RH'.base i hi
  · exact ⟨F.os, F.tape, F.output, F.size, F.blk, F.ren, by rw [List.length_take]; omega, fun i k1 k2 => F.fresh i k1 (by rw [List.length_take] at k2; omega)⟩

/-- The loops of a body, in the text's order. -/
def loopsIn : Code → List Code
  | .loop x => x :: loopsIn x
  | .seq x y => loopsIn x ++ loopsIn y
  | .cond _ x y => loopsIn x ++ loopsIn y
  | .block _ x => loopsIn x
  | .scope x => loopsIn x
  | _ => []
def loopOf (P : Program) (f i : Nat) : Code := match P.funcs[f]? with
  | some fn => match fn.body with
    | some b => (loopsIn b).getD i .skip
    | none => .skip
  | none => .skip

/-- A round by the reckoner. -/
theorem body_of (hmx : c.P.follows .mixedOrders = true) (hfn : ∀ f, c.fns f = true → Callable c.P f) (hL : c.L ≤ lim) {n : Nat} {code : Code} {T T' : List V} {H H' : Heap} {ans : List Ans} {e : Ex} {cons : List Prop} (ds : List Nat)
    (he : (evCode c (evFunc c n) lim code T H ans).map (fun r => (r.e, forgetAt ds r.t, r.h.take H.length, decide (H.length ≤ r.h.length), r.cons)) = some (e, T', H', true, cons))
    (hc : (H'.all fun b => match b with
      | some B => unders H.length B.cells
      | none => true) = true) (ho : anyOwn 0 T' = true) (hs : T'.all (·.slotOk H.length) = true) (hp : Paid cons) : Runs c lim code T H e T' H' := by
  rw [Option.map_eq_some_iff] at he
  obtain ⟨r, h1, h2⟩ := he
  simp only [Prod.mk.injEq, decide_eq_true_eq] at h2
  obtain ⟨rfl, rfl, rfl, hm, rfl⟩ := h2
  exact runs_drop (evCode_sound hmx (evFunc_sound hmx hfn n) hfn hL _ _ _ _ _ h1 hp.all) ds hm hc ho hs
end
end Go.Proofs.Ytlgabdamgalngaa.E
