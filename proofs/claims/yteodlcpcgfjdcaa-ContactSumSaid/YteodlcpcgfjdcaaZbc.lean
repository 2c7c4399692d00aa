/-
  Part of a claim: the reckoner and contracts.
-/
import Derived.Test.YteodlcpcgfjdcaaZbb
set_option linter.unusedVariables false
set_option linter.unusedSimpArgs false
section
namespace Go.Proofs.Yteodlcpcgfjdcaa.E
open Go Go.RowKit
def Runs (c : Cfg) (lim : Nat) (code : Code) (t : List V) (h : Heap) (e : Ex) (t' : List V) (h' : Heap) : Prop :=
  ∀ ρ a w, RelT ρ h.length t a → RelH c ρ h w → code.wp c.P (fun x a' w' => x = e.to ∧ ∃ ρ', a'.defers = a.defers ∧ RelT ρ' h'.length t' a' ∧ RelH c ρ' h' w' ∧ Fr lim ρ h w ρ' h' w') a w
def Meets (c : Cfg) (lim : Nat) (f : FuncId) (args : List V) (h : Heap) (v : V) (h' : Heap) : Prop :=
  ∀ ρ w, RelH c ρ h w → unders h.length args = true →
    Calls c.P f (concs ρ args).toArray w fun e w' => ∃ ρ', ρ'.unk = ρ.unk ∧ e = .returned (v.conc ρ') ∧ RelH c ρ' h' w' ∧ Fr lim ρ h w ρ' h' w' ∧ v.under h'.length = true
def Ret (c : Cfg) (f : FuncId) (args : List V) (v : V) : Prop := ∀ h lim, c.L ≤ lim → Meets c lim f args h v h
structure COut where
  e : Ex
  t : List V
  h : Heap
  ans : List Ans
  cons : List Prop
def iter (body : List V → Heap → List Ans → Option COut) : Nat → List V → Heap → List Ans → Option COut
  | 0, _, _, _ => none
  | n + 1, t, h, ans => match body t h ans with
    | none => none
    | some r => match r.e with
      | .normal => match iter body n r.t r.h r.ans with
        | none => none
        | some q => some { q with cons := r.cons ++ q.cons }
      | _ => some r
def litOf (t : List V) : Operand → Option Bool
  | .tmp s => match t[s]? with
    | some (.lit b) => some b
    | _ => none
  | _ => none
def evCode (c : Cfg) (cf : CallF) (lim : Nat) : Code → List V → Heap → List Ans → Option COut
  | .skip, t, h, ans => some ⟨.normal, t, h, ans, []⟩
  | .label _, t, h, ans => some ⟨.normal, t, h, ans, []⟩
  | .exit id, t, h, ans => some ⟨.exit id, t, h, ans, []⟩
  | .ret, t, h, ans => some ⟨.ret, t, h, ans, []⟩
  | .region _ ops draws, t, h, ans => match (match draws with
      | true => evDrawn c cf lim ops t h ans
      | false => evOps c cf lim ops ops.toList t h ans) with
    | some r => some ⟨.normal, r.t, r.h, r.ans, r.cons⟩
    | none => none
  | .seq x y, t, h, ans => match evCode c cf lim x t h ans with
    | none => none
    | some r => match r.e with
      | .normal => match evCode c cf lim y r.t r.h r.ans with
        | none => none
        | some q => some { q with cons := r.cons ++ q.cons }
      | _ => some r
  | .cond x y z, t, h, ans => match litOf t x with
    | some true => evCode c cf lim y t h ans
    | some false => evCode c cf lim z t h ans
    | none => match opnd c t x with
    | some (.raw (.bool b)) => match ans with
      | .br q :: ans' => match (match q with
          | true => evCode c cf lim y t h ans'
          | false => evCode c cf lim z t h ans') with
        | none => none
        | some r => some { r with cons := (b = q) :: r.cons }
      | _ => none
    | _ => none
  | .block id x, t, h, ans => match evCode c cf lim x t h ans with
    | none => none
    | some r => some { r with e := match r.e with
        | .exit i => if i = id then .normal else .exit i
        | e => e }
  | .scope x, t, h, ans => evCode c cf lim x t h ans
  | .loop x, t, h, ans => match ans with
    | .loop e t' h' :: ans' => some ⟨e, t', h', ans', [Runs c lim (.loop x) t h e t' h']⟩
    | ans => iter (evCode c cf lim x) 200 t h ans
  | _, _, _, _ => none
def resultsV (c : Cfg) (t : List V) (h : Heap) : List ResultVar → Option (List V)
  | [] => some []
  | .tmp s :: l => match opnd c t (.tmp s), resultsV c t h l with
    | some v, some vs => some (v :: vs)
    | _, _ => none
  | .cell s T :: l => match opnd c t (.tmp s) with
    | some (.ptr b off) => match loadV c h T b off, resultsV c t h l with
      | some v, some vs => some (v :: vs)
      | _, _ => none
    | _ => none
def oneOf : List V → V
  | [v] => v
  | l => mkTup l
def evFunc (c : Cfg) : Nat → CallF
  | 0, _, _, _, _, _ => none
  | n + 1, f, args, h, lim, ans => match ans with
    | .ret v :: ans' => some ⟨v, h, ans', [Ret c f args v]⟩
    | .reth v h' :: ans' => some ⟨v, h', ans', [Meets c lim f args h v h']⟩
    | .go :: ans' => match c.P.funcs[f]? with
      | none => none
      | some fn => match fn.body with
        | none => none
        | some code => match evCode c (evFunc c n) lim code (args ++ List.replicate (fn.ntmps - args.length) (.raw undef)) h ans' with
          | none => none
          | some r => match r.e with
            | .exit _ => none
            | _ => match resultsV c r.t r.h fn.results.toList with
              | none => none
              | some vs => some ⟨oneOf vs, r.h, r.ans, r.cons⟩
    | _ => none
section
variable {c : Cfg} {lim : Nat}
theorem relT_put {ρ ρ' : Ren} {n n' : Nat} {t : List V} {a : Act} (RT : RelT ρ n t a) (hag : ∀ i, i < n → ρ'.blk i = ρ.blk i) (hu : ρ'.unk = ρ.unk) (hn : n ≤ n') {v : V} (hv : v.slotOk n' = true) (d : Option Nat) : RelT ρ' n' (putT t d v) (a.put d (v.conc ρ')) := by
  have h0 : concs ρ' t = concs ρ t := by
    rw [concs_map, concs_map]
    exact List.map_congr_left fun x hx => V.slot_agree hag hu x (RT.sco x hx)
  cases d with
  | none => exact ⟨by simp only [putT, Act.put]; rw [RT.tmps, h0], fun x hx => V.slotOk_mono hn x (RT.sco x hx)⟩
  | some d =>
    refine ⟨?_, fun x hx => ?_⟩
    · simp only [putT, Act.put]
      rw [RT.tmps, concs_set, h0]
      simp
    · simp only [putT] at hx
      rcases List.mem_or_eq_of_mem_set hx with h1 | rfl
      · exact V.slotOk_mono hn x (RT.sco x h1)
      · exact hv
theorem evGuard_sound {ρ : Ren} {n : Nat} {ops : Array Oper} {t : List V} {a : Act} {ans : List Ans} {o : Oper} {g : GOut} (he : evGuard ops t ans o = some g) (hc : ∀ p ∈ g.cons, p) (RT : RelT ρ n t a) :
    Region.wanted o (yielded ops a.tmps) = g.want ∧ RelT ρ n g.t a := by
  unfold evGuard at he
  split at he
  · rename_i hg
    simp only [Option.some.injEq] at he
    subst he
    exact ⟨by simp [Region.wanted, hg], RT⟩
  · rename_i j want hg
    split at he
    · rename_i d hd
      split at he
      · rename_i b hb
        simp only [Option.some.injEq] at he
        subst he
        have hy : a.tmps[d]? = some (.bool b) := by rw [RT.tmps]; simp [concs_get, hb, V.conc]
        refine ⟨?_, RT⟩
        simp [Region.wanted, hg, yielded, hd, hy]
      · rename_i b hb
        split at he
        · rename_i q ans'
          simp only [Option.some.injEq] at he
          subst he
          have hbq : b = q := hc _ (List.mem_singleton.2 rfl)
          subst hbq
          have hset : concs ρ (t.set d (.lit b)) = concs ρ t := by
            obtain ⟨hlt, hx⟩ := List.getElem?_eq_some_iff.1 hb
            rw [concs_set]
            have : (concs ρ t)[d]'(by rw [concs_length]; exact hlt) = .bool b := by simp [concs_map, hx, V.conc]
            simp only [V.conc]
            rw [← this]; exact List.set_getElem_self _
          have hy : a.tmps[d]? = some (.bool b) := by rw [RT.tmps]; simp [concs_get, hb, V.conc]
          refine ⟨?_, by rw [hset]; exact RT.tmps, fun x hx => ?_⟩
          rotate_left
          · rcases List.mem_or_eq_of_mem_set hx with h1 | rfl
            · exact RT.sco x h1
            · rfl
          simp [Region.wanted, hg, yielded, hd, hy]
        · cases he
      · rename_i vs hb
        simp only [Option.some.injEq] at he
        subst he
        have hy : a.tmps[d]? = some (.tuple vs) := by rw [RT.tmps]; simp [concs_get, hb, V.conc]
        refine ⟨?_, RT⟩
        simp [Region.wanted, hg, yielded, hd, hy]
      · cases he
    · cases he
theorem evOps_sound {cf : CallF} (hcf : CallOk c cf) (hfn : ∀ f, c.fns f = true → Callable c.P f) (hL : c.L ≤ lim) {ops : Array Oper} {Q : Exit → Act → World → Prop} :
    ∀ (l : List Oper) (t : List V) (h : Heap) (ans : List Ans) (r : ROut) (ρ : Ren) (a : Act) (w : World), evOps c cf lim ops l t h ans = some r → (∀ p ∈ r.cons, p) → RelH c ρ h w → RelT ρ h.length t a →
      (∀ ρ' a' w', ρ'.unk = ρ.unk → a'.defers = a.defers → RelT ρ' r.h.length r.t a' → RelH c ρ' r.h w' → Fr lim ρ h w ρ' r.h w' → Q .normal a' w') → wpList c.P ops Q l a w
  | [], t, h, ans, r, ρ, a, w, he, hc, RH, RT, hQ => by
    simp only [evOps, Option.some.injEq] at he
    subst he
    exact hQ ρ a w rfl rfl RT RH (Fr.refl _ _ _ _)
  | o :: rest, t, h, ans, r, ρ, a, w, he, hc, RH, RT, hQ => by
    simp only [evOps] at he
    split at he
    · cases he
    · rename_i g hg
      split at he
      · rename_i hw
        split at he
        · cases he
        · rename_i r1 hr1
          split at he
          · cases he
          · rename_i q hq
            simp only [Option.some.injEq] at he
            subst he
            obtain ⟨h1, RT1⟩ := evGuard_sound hg (fun p hp => hc p (List.mem_append_left _ hp)) RT
            refine wpList_step fun K hK => ?_
            rw [h1, hw, if_pos rfl]
            refine evOp_sound hcf hfn hr1 (fun p hp => hc p (List.mem_append_right _ (List.mem_append_left _ hp))) RH RT1 hL fun ρ1 w1 hu1 RH1 F1 hv1 => hK _ _ ?_
            have RT2 := relT_put RT1 F1.ren hu1 F1.len (V.slot_of_under _ hv1) o.dst
            refine evOps_sound hcf hfn hL rest _ _ _ q ρ1 _ w1 hq (fun p hp => hc p (List.mem_append_right _ (List.mem_append_right _ hp))) RH1 RT2 fun ρ' a' w' hu' hd' RT' RH' F' => ?_
            exact hQ ρ' a' w' (hu'.trans hu1) (hd'.trans R.put_defers) RT' RH' (F1.trans F')
      · rename_i hw
        split at he
        · cases he
        · rename_i q hq
          simp only [Option.some.injEq] at he
          subst he
          obtain ⟨h1, RT1⟩ := evGuard_sound hg (fun p hp => hc p (List.mem_append_left _ hp)) RT
          refine wpList_step fun K hK => ?_
          rw [h1, if_neg hw]
          refine hK _ _ ?_
          have RT2 := relT_put (ρ' := ρ) RT1 (fun _ _ => rfl) rfl (Nat.le_refl _) (v := .raw undef) rfl o.dst
          refine evOps_sound hcf hfn hL rest _ _ _ q ρ _ w hq (fun p hp => hc p (List.mem_append_right _ hp)) RH RT2 fun ρ' a' w' hu' hd' RT' RH' F' => ?_
          exact hQ ρ' a' w' hu' (hd'.trans R.put_defers) RT' RH' F'
end
end Go.Proofs.Yteodlcpcgfjdcaa.E
namespace Go.Proofs.Yteodlcpcgfjdcaa.E
open Go Go.RowKit
def newPos : List AItem → Nat → Nat
  | [], _ => 0
  | .new _ _ :: _, 0 => 0
  | .new _ _ :: l, m + 1 => newPos l m + 1
  | .val _ :: l, m => newPos l m + 1
  | .put _ _ :: l, m => newPos l m + 1
  | .old _ _ _ :: l, m => newPos l m + 1
  | .skip :: l, m => newPos l m + 1
theorem newPos_get : ∀ (l : List AItem) (m : Nat), m < cntNew l → ∃ T z, l[newPos l m]? = some (.new T z)
  | [], m, h => by simp [cntNew] at h
  | .new T z :: l, 0, h => ⟨T, z, rfl⟩
  | .new T z :: l, m + 1, h => by
    obtain ⟨T', z', h1⟩ := newPos_get l m (by simp only [cntNew] at h; omega)
    exact ⟨T', z', by simpa [newPos] using h1⟩
  | .val _ :: l, m, h => by
    obtain ⟨T', z', h1⟩ := newPos_get l m h
    exact ⟨T', z', by simpa [newPos] using h1⟩
  | .put _ _ :: l, m, h => by
    obtain ⟨T', z', h1⟩ := newPos_get l m h
    exact ⟨T', z', by simpa [newPos] using h1⟩
  | .old _ _ _ :: l, m, h => by
    obtain ⟨T', z', h1⟩ := newPos_get l m h
    exact ⟨T', z', by simpa [newPos] using h1⟩
  | .skip :: l, m, h => by
    obtain ⟨T', z', h1⟩ := newPos_get l m h
    exact ⟨T', z', by simpa [newPos] using h1⟩
theorem newPos_inj : ∀ (l : List AItem) (m m' : Nat), m < cntNew l → m' < cntNew l → newPos l m = newPos l m' → m = m'
  | [], m, m', h, _, _ => by simp [cntNew] at h
  | .new T z :: l, 0, 0, _, _, _ => rfl
  | .new T z :: l, 0, m' + 1, _, _, e => by simp [newPos] at e
  | .new T z :: l, m + 1, 0, _, _, e => by simp [newPos] at e
  | .new T z :: l, m + 1, m' + 1, h, h', e => by
    simp only [newPos, Nat.add_right_cancel_iff] at e
    simp only [cntNew] at h h'
    rw [newPos_inj l m m' (by omega) (by omega) e]
  | .val _ :: l, m, m', h, h', e => newPos_inj l m m' h h' (by simpa [newPos] using e)
  | .put _ _ :: l, m, m', h, h', e => newPos_inj l m m' h h' (by simpa [newPos] using e)
  | .old _ _ _ :: l, m, m', h, h', e => newPos_inj l m m' h h' (by simpa [newPos] using e)
  | .skip :: l, m, m', h, h', e => newPos_inj l m m' h h' (by simpa [newPos] using e)
theorem newPos_take : ∀ (l : List AItem) (k : Nat) (T : TypeId) (z : List V), l[k]? = some (.new T z) → newPos l (cntNew (l.take k)) = k ∧ cntNew (l.take k) < cntNew l
  | [], k, T, z, h => by simp at h
  | x :: l, 0, T, z, h => by
    simp only [List.getElem?_cons_zero, Option.some.injEq] at h
    subst h
    simp [newPos, cntNew]
  | x :: l, k + 1, T, z, h => by
    have ⟨h1, h2⟩ := newPos_take l k T z (by simpa using h)
    cases x <;> simp only [List.take_succ_cons, cntNew, newPos] <;> omega
theorem newBlks_len (its : List AItem) : ∀ (l : List AItem) (i : Nat), (newBlks its i l).length = cntNew l
  | [], i => rfl
  | .new T z :: l, i => by simp [newBlks, cntNew, newBlks_len its l]
  | .val _ :: l, i => by simp [newBlks, cntNew, newBlks_len its l]
  | .put _ _ :: l, i => by simp [newBlks, cntNew, newBlks_len its l]
  | .old _ _ _ :: l, i => by simp [newBlks, cntNew, newBlks_len its l]
  | .skip :: l, i => by simp [newBlks, cntNew, newBlks_len its l]
theorem newBlks_get (its : List AItem) : ∀ (l : List AItem) (i m : Nat) (B : Blk), (newBlks its i l)[m]? = some (some B) → (∃ z, l[newPos l m]? = some (.new B.ty z)) ∧ putOf its (i + newPos l m) = some B.cells
  | [], i, m, B, h => by simp [newBlks] at h
  | .new T z :: l, i, 0, B, h => by
    simp only [newBlks, List.getElem?_cons_zero, Option.some.injEq, Option.map_eq_some_iff] at h
    obtain ⟨cs, h1, rfl⟩ := h
    exact ⟨⟨z, rfl⟩, h1⟩
  | .new T z :: l, i, m + 1, B, h => by
    have ⟨⟨z', h1⟩, h2⟩ := newBlks_get its l (i + 1) m B (by simpa [newBlks] using h)
    exact ⟨⟨z', by simpa [newPos] using h1⟩, by simp only [newPos]; rw [← h2]; congr 1; omega⟩
  | .val _ :: l, i, m, B, h => by
    have ⟨⟨z', h1⟩, h2⟩ := newBlks_get its l (i + 1) m B (by simpa [newBlks] using h)
    exact ⟨⟨z', by simpa [newPos] using h1⟩, by simp only [newPos]; rw [← h2]; congr 1; omega⟩
  | .put _ _ :: l, i, m, B, h => by
    have ⟨⟨z', h1⟩, h2⟩ := newBlks_get its l (i + 1) m B (by simpa [newBlks] using h)
    exact ⟨⟨z', by simpa [newPos] using h1⟩, by simp only [newPos]; rw [← h2]; congr 1; omega⟩
  | .old _ _ _ :: l, i, m, B, h => by
    have ⟨⟨z', h1⟩, h2⟩ := newBlks_get its l (i + 1) m B (by simpa [newBlks] using h)
    exact ⟨⟨z', by simpa [newPos] using h1⟩, by simp only [newPos]; rw [← h2]; congr 1; omega⟩
  | .skip :: l, i, m, B, h => by
    have ⟨⟨z', h1⟩, h2⟩ := newBlks_get its l (i + 1) m B (by simpa [newBlks] using h)
    exact ⟨⟨z', by simpa [newPos] using h1⟩, by simp only [newPos]; rw [← h2]; congr 1; omega⟩
theorem putOf_get {its : List AItem} {k : Nat} {cs : List V} (h : putOf its k = some cs) : ∃ i : Nat, its[i]? = some (AItem.put k cs) := by
  unfold putOf at h
  obtain ⟨it, hm, h1⟩ := List.exists_of_findSome?_eq_some h
  cases it with
  | put k' cs' =>
    simp only at h1
    split at h1
    · rename_i e
      simp only [Option.some.injEq] at h1
      subst h1; subst e
      exact List.mem_iff_getElem?.1 hm
    · cases h1
  | _ => cases h1
theorem applyOlds_len : ∀ (l : List AItem) (h : Heap), (applyOlds l h).length = h.length
  | [], h => rfl
  | .old b T cs :: l, h => by simp [applyOlds, applyOlds_len l]
  | .new _ _ :: l, h => by simp [applyOlds, applyOlds_len l]
  | .val _ :: l, h => by simp [applyOlds, applyOlds_len l]
  | .put _ _ :: l, h => by simp [applyOlds, applyOlds_len l]
  | .skip :: l, h => by simp [applyOlds, applyOlds_len l]
theorem applyOlds_get : ∀ (l : List AItem) (h : Heap) (i : Nat) (B : Blk), (applyOlds l h)[i]? = some (some B) → (∃ j : Nat, l[j]? = some (AItem.old i B.ty B.cells)) ∨ (h[i]? = some (some B) ∧ ∀ (j : Nat) (T : TypeId) (cs : List V), l[j]? ≠ some (.old i T cs))
  | [], h, i, B, hi => .inr ⟨hi, by simp⟩
  | .old b T cs :: l, h, i, B, hi => by
    rcases applyOlds_get l (h.set b (some ⟨cs, T⟩)) i B hi with ⟨j, hj⟩ | ⟨h1, h2⟩
    · exact .inl ⟨j + 1, by simpa using hj⟩
    · rcases Nat.decEq i b with hne | rfl
      · rw [List.getElem?_set_ne (Ne.symm hne)] at h1
        refine .inr ⟨h1, fun j T' cs' hj => ?_⟩
        cases j with
        | zero => simp only [List.getElem?_cons_zero, Option.some.injEq, AItem.old.injEq] at hj; exact hne hj.1.symm
        | succ j => exact h2 j T' cs' (by simpa using hj)
      · have hl : i < h.length := by
          rcases Nat.lt_or_ge i h.length with h3 | h3
          · exact h3
          · rw [List.getElem?_eq_none (by simpa using h3)] at h1; cases h1
        rw [List.getElem?_set_self hl] at h1
        simp only [Option.some.injEq] at h1
        subst h1
        exact .inl ⟨0, rfl⟩
  | .new _ _ :: l, h, i, B, hi => by
    rcases applyOlds_get l h i B hi with ⟨j, hj⟩ | ⟨h1, h2⟩
    · exact .inl ⟨j + 1, by simpa using hj⟩
    · refine .inr ⟨h1, fun j T' cs' hj => ?_⟩
      cases j with
      | zero => simp at hj
      | succ j => exact h2 j T' cs' (by simpa using hj)
  | .val _ :: l, h, i, B, hi => by
    rcases applyOlds_get l h i B hi with ⟨j, hj⟩ | ⟨h1, h2⟩
    · exact .inl ⟨j + 1, by simpa using hj⟩
    · refine .inr ⟨h1, fun j T' cs' hj => ?_⟩
      cases j with
      | zero => simp at hj
      | succ j => exact h2 j T' cs' (by simpa using hj)
  | .put _ _ :: l, h, i, B, hi => by
    rcases applyOlds_get l h i B hi with ⟨j, hj⟩ | ⟨h1, h2⟩
    · exact .inl ⟨j + 1, by simpa using hj⟩
    · refine .inr ⟨h1, fun j T' cs' hj => ?_⟩
      cases j with
      | zero => simp at hj
      | succ j => exact h2 j T' cs' (by simpa using hj)
  | .skip :: l, h, i, B, hi => by
    rcases applyOlds_get l h i B hi with ⟨j, hj⟩ | ⟨h1, h2⟩
    · exact .inl ⟨j + 1, by simpa using hj⟩
    · refine .inr ⟨h1, fun j T' cs' hj => ?_⟩
      cases j with
      | zero => simp at hj
      | succ j => exact h2 j T' cs' (by simpa using hj)
theorem applyOlds_low : ∀ (l : List AItem) (i : Nat), (∀ b ∈ oldNames l, i ≠ b) → ∀ h : Heap, (applyOlds l h)[i]? = h[i]?
  | [], i, _, h => rfl
  | .old b T cs :: l, i, hn, h => by
    simp only [applyOlds]
    rw [applyOlds_low l i (fun b hb => hn b (by simp [oldNames, hb])), List.getElem?_set_ne (Ne.symm (hn b (by simp [oldNames])))]
  | .new _ _ :: l, i, hn, h => applyOlds_low l i hn h
  | .val _ :: l, i, hn, h => applyOlds_low l i hn h
  | .put _ _ :: l, i, hn, h => applyOlds_low l i hn h
  | .skip :: l, i, hn, h => applyOlds_low l i hn h
theorem nodupB_iff : ∀ l : List Nat, nodupB l = true → l.Nodup
  | [], _ => List.nodup_nil
  | x :: l, h => by
    simp only [nodupB, Bool.and_eq_true, Bool.not_eq_true'] at h
    exact List.nodup_cons.2 ⟨by simpa using h.1, nodupB_iff l h.2⟩
theorem olds_to (ρ : Ren) : ∀ l : List AItem, R.olds (l.map (AItem.to ρ)) = (oldNames l).map ρ.blk
  | [] => rfl
  | .old b T cs :: l => by simp [R.olds, oldNames, AItem.to, olds_to ρ l]
  | .new _ _ :: l => by simp [R.olds, oldNames, AItem.to, olds_to ρ l]
  | .val _ :: l => by simp [R.olds, oldNames, AItem.to, olds_to ρ l]
  | .put _ _ :: l => by simp [R.olds, oldNames, AItem.to, olds_to ρ l]
  | .skip :: l => by simp [R.olds, oldNames, AItem.to, olds_to ρ l]
theorem nodup_map {f : Nat → Nat} : ∀ l : List Nat, (∀ x ∈ l, ∀ y ∈ l, f x = f y → x = y) → l.Nodup → (l.map f).Nodup
  | [], _, _ => List.nodup_nil
  | x :: l, h, hn => by
    rw [List.nodup_cons] at hn
    rw [List.map_cons, List.nodup_cons]
    refine ⟨fun hm => ?_, nodup_map l (fun a ha b hb => h a (List.mem_cons_of_mem _ ha) b (List.mem_cons_of_mem _ hb)) hn.2⟩
    obtain ⟨y, hy, e⟩ := List.mem_map.1 hm
    rw [h y (List.mem_cons_of_mem _ hy) x List.mem_cons_self e] at hy
    exact hn.1 hy
def normI : R.Item → R.Item
  | .val _ => .val undef
  | .new _ _ => .new 0 #[]
  | .put k _ => .put k #[]
  | .old _ _ _ => .old 0 0 #[]
  | .skip => .skip
theorem shape_norm (ops : Array Oper) (its : List R.Item) (n : Nat) : R.shape ops (its.map normI) n = R.shape ops its n := by
  unfold R.shape
  simp only [List.length_map, List.getElem?_map]
  congr 1
  congr 1
  funext i
  cases ops[i]? with
  | none => cases its[i]? <;> rfl
  | some o =>
    cases its[i]? with
    | none => rfl
    | some it =>
      simp only [Option.map_some]
      congr 1
      · cases it with
        | put k cs =>
          simp only [normI]
          cases its[k]? with
          | none => rfl
          | some jt => cases jt <;> rfl
        | _ => rfl
      · congr 1
        funext j
        cases ops[j]? with
        | none => rfl
        | some p =>
          cases its[j]? with
          | none => rfl
          | some jt => cases it <;> cases jt <;> rfl
theorem norm_to (ρ ρ' : Ren) (it : AItem) : normI (it.to ρ) = normI (it.to ρ') := by cases it <;> rfl
theorem shape_to {ops : Array Oper} {its : List AItem} {n : Nat} (ρ ρ' : Ren) (h : R.shape ops (its.map (AItem.to ρ')) n = true) : R.shape ops (its.map (AItem.to ρ)) n = true := by
  rw [← shape_norm, List.map_map] at h ⊢
  rw [← h]
  congr 1
  exact List.map_congr_left fun x _ => norm_to ρ ρ' x
end Go.Proofs.Yteodlcpcgfjdcaa.E
namespace Go.Proofs.Yteodlcpcgfjdcaa.E
open Go Go.RowKit
def tAt (ops : Array Oper) (its : List AItem) (n0 : Nat) (t0 : List V) : Nat → List V
  | 0 => t0
  | k + 1 => match ops[k]?, its[k]? with
    | some o, some it => putT (tAt ops its n0 t0 k) o.dst (it.slot n0 (its.take k))
    | _, _ => tAt ops its n0 t0 k
theorem evDr_spec {c : Cfg} {cf : CallF} {lim : Nat} {ops : Array Oper} {h : Heap} {olds : List (Nat × Nat)} {t0 : List V} : ∀ (rest : List Oper) (acc : List AItem) (t : List V) (ans : List Ans) (r : DROut),
    evDr c cf lim ops h olds acc rest t ans = some r → (∀ p ∈ r.cons, p) → ∀ done, ops.toList = done ++ rest → done.length = acc.length → (∀ its, acc <+: its → tAt ops its h.length t0 acc.length = t) →
      acc <+: r.its ∧ r.its.length = ops.size ∧ r.t = tAt ops r.its h.length t0 ops.size ∧ ∀ k, acc.length ≤ k → ∀ o, ops[k]? = some o →
        ∃ ansk dk, evD1 c cf lim ops h olds (r.its.take k) (tAt ops r.its h.length t0 k) ansk o = some dk ∧ (∀ p ∈ dk.cons, p) ∧ r.its[k]? = some dk.it
  | [], acc, t, ans, r, he, hc, done, hd, hl, ht => by
    simp only [evDr, Option.some.injEq] at he
    subst he
    have hs : acc.length = ops.size := by rw [← Array.length_toList, hd]; simp [hl]
    refine ⟨List.prefix_refl _, hs, ?_, fun k hk o ho => ?_⟩
    · rw [← hs, ht _ (List.prefix_refl _)]
    · rw [Array.getElem?_eq_none (by omega)] at ho; cases ho
  | o :: rest, acc, t, ans, r, he, hc, done, hd, hl, ht => by
    simp only [evDr] at he
    split at he
    · cases he
    · rename_i d hd1
      split at he
      · cases he
      · rename_i r' hr'
        simp only [Option.some.injEq] at he
        subst he
        have ho : ops[acc.length]? = some o := by
          rw [← Array.getElem?_toList, hd, List.getElem?_append_right (by omega), hl, Nat.sub_self]; rfl
        have hnext : ∀ its, acc ++ [d.it] <+: its → tAt ops its h.length t0 (acc ++ [d.it]).length = putT t o.dst (d.it.slot h.length acc) := fun its hp => by
          have hp' : acc <+: its := (List.prefix_append acc [d.it]).trans hp
          have hi : its[acc.length]? = some d.it := by
            obtain ⟨u, rfl⟩ := hp
            simp
          have htk : its.take acc.length = acc := by
            obtain ⟨u, rfl⟩ := hp'
            simp
          rw [List.length_append, List.length_singleton]
          simp only [tAt, ho, hi, htk, ht its hp']
        obtain ⟨h1, h2, h3, h4⟩ := evDr_spec rest (acc ++ [d.it]) _ _ r' hr' (fun p hp => hc p (List.mem_append_right _ hp)) (done ++ [o]) (by rw [hd]; simp) (by simp [hl]) hnext
        have hp' : acc <+: r'.its := (List.prefix_append acc [d.it]).trans h1
        refine ⟨hp', h2, h3, fun k hk p hp => ?_⟩
        rcases Nat.lt_or_ge acc.length k with hlt | hge
        · exact h4 k (by simp; omega) p hp
        · obtain rfl : k = acc.length := by omega
          obtain rfl : o = p := Option.some.inj (ho.symm.trans hp)
          have htk : r'.its.take acc.length = acc := by
            obtain ⟨u, hu⟩ := hp'
            rw [← hu]; simp
          refine ⟨ans, d, ?_, fun q hq => hc q (List.mem_append_left _ hq), ?_⟩
          · show evD1 c cf lim ops h olds (r'.its.take acc.length) (tAt ops r'.its h.length t0 acc.length) ans o = some d
            rw [htk, ht _ hp', hd1]
          · show r'.its[acc.length]? = some d.it
            obtain ⟨u, hu⟩ := h1
            rw [← hu]; simp
inductive BodySpec (c : Cfg) (cf : CallF) (lim : Nat) (ops : Array Oper) (h : Heap) (olds : List (Nat × Nat)) (acc : List AItem) (t : List V) (o : Oper) : AItem → List Prop → Prop
  | alloc (T : TypeId) (z : Value) : o.op = .alloc T → pureRun c.P (zeroValue T) = some z → BodySpec c cf lim ops h olds acc t o (.new T (z.cells.toList.map .raw)) []
  | box (T : TypeId) (x : Operand) (v : V) (xs : List V) : o.op = .box T x → seen ops acc o x = true → opnd c t x = some v → v.under h.length = true → cellsV v = some xs → BodySpec c cf lim ops h olds acc t o (.new T xs) []
  | put (Ty : TypeId) (s : Nat) (y : Operand) (v : V) (xs : List V) (n k : Nat) (T : TypeId) (z : List V) : o.op = .store Ty (.tmp s) y → seen ops acc o y = true → opnd c t y = some v → v.under h.length = true → cellsV v = some xs → pureRun c.P (Go.sizeOf Ty) = some n → xs.length = n → oneCells xs = true →
      writer ops s = some k → acc[k]? = some (.new T z) → xs.length = z.length → BodySpec c cf lim ops h olds acc t o (.put k xs) []
  | old (Ty : TypeId) (s : Nat) (y : Operand) (v : V) (xs : List V) (n b off : Nat) (B : Blk) : o.op = .store Ty (.tmp s) y → seen ops acc o y = true → opnd c t y = some v → v.under h.length = true → cellsV v = some xs → pureRun c.P (Go.sizeOf Ty) = some n → xs.length = n → oneCells xs = true →
      ((writer ops s = none ∧ opnd c t (.tmp s) = some (.ptr b off)) ∨ (∃ k, writer ops s = some k ∧ bound o k = true ∧ acc[k]? = some (.val (.ptr b off)))) → h[b]? = some (some B) → lim ≤ b → off + xs.length ≤ B.cells.length → (acc.length, b) ∈ olds →
      BodySpec c cf lim ops h olds acc t o (.old b B.ty (putAt B.cells off xs)) []
  | val (l : List Operand) (ans : List Ans) (r : Out) : usedOpnds ans o.op = some l → l.all (seen ops acc o) = true → l.all (underO c t h.length) = true → evOp c cf h.length t (killed c.L ops olds acc.length h) ans o = some r → r.v.under h.length = true → BodySpec c cf lim ops h olds acc t o (.val r.v) r.cons
theorem underO_spec {c : Cfg} {t : List V} {n : Nat} {x : Operand} (h : underO c t n x = true) : ∃ v, opnd c t x = some v ∧ v.under n = true := by
  unfold underO at h
  split at h
  · rename_i v hv; exact ⟨v, hv, h⟩
  · cases h
theorem evBody_spec {c : Cfg} {cf : CallF} {lim : Nat} {ops : Array Oper} {h : Heap} {olds : List (Nat × Nat)} {acc : List AItem} {t : List V} {ans : List Ans} {o : Oper} {d : DOut}
    (he : evBody c cf lim ops h olds acc t ans o = some d) : BodySpec c cf lim ops h olds acc t o d.it d.cons := by
  have gen : ∀ op, o.op = op → (match usedOpnds ans op with
    | some l => if l.all (seen ops acc o) && l.all (underO c t h.length) then
        match evOp c cf h.length t (killed c.L ops olds acc.length h) ans o with
        | some r => if r.v.under h.length then some (⟨.val r.v, r.ans, r.cons⟩ : DOut) else none
        | none => none
      else none
    | none => none) = some d → BodySpec c cf lim ops h olds acc t o d.it d.cons := fun op hop h1 => by
    split at h1
    · rename_i l hl
      split at h1
      · rename_i hs
        rw [Bool.and_eq_true] at hs
        split at h1
        · rename_i r hr
          split at h1
          · rename_i hu
            simp only [Option.some.injEq] at h1
            subst h1
            exact .val l ans r (by rw [hop]; exact hl) hs.1 hs.2 hr hu
          · cases h1
        · cases h1
      · cases h1
    · cases h1
  unfold evBody at he
  split at he
  · rename_i T hop
    split at he
    · rename_i z hz
      simp only [Option.some.injEq] at he
      subst he
      exact .alloc T z hop hz
    · cases he
  · rename_i T x hop
    split at he
    · rename_i hs
      rw [Bool.and_eq_true] at hs
      obtain ⟨v, hv, hu⟩ := underO_spec hs.2
      rw [hv] at he
      simp only [Option.bind_some] at he
      split at he
      · rename_i xs hxs
        simp only [Option.some.injEq] at he
        subst he
        exact .box T x v xs hop hs.1 hv hu hxs
      · cases he
    · cases he
  · rename_i T x y hop
    split at he
    · rename_i hs
      rw [Bool.and_eq_true] at hs
      obtain ⟨v, hv, hu⟩ := underO_spec hs.2
      rw [hv] at he
      simp only [Option.bind_some] at he
      split at he
      · rename_i xs n d0 hxs hn
        split at he
        · rename_i h1
          split at he
          · rename_i hw
            split at he
            · rename_i b off hx
              split at he
              · rename_i B hB
                split at he
                · rename_i h2
                  simp only [Option.some.injEq] at he
                  subst he
                  exact .old T d0 y v xs n b off B hop hs.1 hv hu hxs hn h1.1 h1.2 (.inl ⟨hw, hx⟩) hB h2.1 h2.2.1 (by simpa using h2.2.2)
                · cases he
              · cases he
            · cases he
          · rename_i k hw
            split at he
            · rename_i T' z hk
              split at he
              · rename_i h2
                simp only [Option.some.injEq] at he
                subst he
                exact .put T d0 y v xs n k T' z hop hs.1 hv hu hxs hn h1.1 h1.2 hw hk h2
              · cases he
            · rename_i b off hk
              split at he
              · rename_i hbd
                split at he
                · rename_i B hB
                  split at he
                  · rename_i h2
                    simp only [Option.some.injEq] at he
                    subst he
                    exact .old T d0 y v xs n b off B hop hs.1 hv hu hxs hn h1.1 h1.2 (.inr ⟨k, hw, hbd, hk⟩) hB h2.1 h2.2.1 (by simpa using h2.2.2)
                  · cases he
                · cases he
              · cases he
            · cases he
        · cases he
      · cases he
    · cases he
  · exact gen _ rfl he
theorem evD1_spec {c : Cfg} {cf : CallF} {lim : Nat} {ops : Array Oper} {h : Heap} {olds : List (Nat × Nat)} {acc : List AItem} {t : List V} {ans : List Ans} {o : Oper} {d : DOut}
    (he : evD1 c cf lim ops h olds acc t ans o = some d) (hc : ∀ p ∈ d.cons, p) :
    (∃ cons, BodySpec c cf lim ops h olds acc t o d.it cons ∧ (∀ p ∈ cons, p) ∧ (o.guard = none ∨ ∃ j want b, o.guard = some (j, want) ∧ bound o j = true ∧ (ops[j]?).any (·.dst.isSome) = true ∧ acc[j]? = some (.val (.raw (.bool b))) ∧ (b == want) = true)) ∨
    (d.it = .skip ∧ ∃ j want b, o.guard = some (j, want) ∧ bound o j = true ∧ (ops[j]?).any (·.dst.isSome) = true ∧ acc[j]? = some (.val (.raw (.bool b))) ∧ (b == want) = false) := by
  unfold evD1 at he
  split at he
  · rename_i hg
    exact .inl ⟨d.cons, evBody_spec he, hc, .inl hg⟩
  · rename_i j want hg
    split at he
    · rename_i hb
      rw [Bool.and_eq_true] at hb
      split at he
      · rename_i b hj
        split at he
        · rename_i q ans'
          split at he
          · rename_i hq
            split at he
            · rename_i r hr
              split at he
              · cases he
              · simp only [Option.some.injEq] at he
                subst he
                have hbq : b = q := hc _ List.mem_cons_self
                exact .inl ⟨r.cons, evBody_spec hr, fun p hp => hc p (List.mem_cons_of_mem _ hp), .inr ⟨j, want, b, hg, hb.1, hb.2, hj, by rw [hbq]; exact hq⟩⟩
            · cases he
          · rename_i hq
            simp only [Option.some.injEq] at he
            subst he
            have hbq : b = q := hc _ List.mem_cons_self
            exact .inr ⟨rfl, j, want, b, hg, hb.1, hb.2, hj, by rw [hbq]; simpa using hq⟩
        · cases he
      · cases he
    · cases he
end Go.Proofs.Yteodlcpcgfjdcaa.E
namespace Go.Proofs.Yteodlcpcgfjdcaa.E
open Go Go.RowKit
theorem isRaw_congr {c : Cfg} {t t' : List V} {x : Operand} (h : opnd c t x = opnd c t' x) : isRaw c t x = isRaw c t' x := by unfold isRaw; rw [h]
theorem rawOf_congr {c : Cfg} {t t' : List V} {x : Operand} (h : opnd c t x = opnd c t' x) : rawOf c t x = rawOf c t' x := by unfold rawOf; rw [h]
theorem opnds_congr {c : Cfg} {t t' : List V} : ∀ (l : List Operand), (∀ x ∈ l, opnd c t x = opnd c t' x) → opnds c t l = opnds c t' l
  | [], _ => rfl
  | x :: l, h => by simp only [opnds]; rw [h x List.mem_cons_self, opnds_congr l fun y hy => h y (List.mem_cons_of_mem _ hy)]
theorem bare_congr {c : Cfg} {t t' : List V} {op : Op} {l : List Operand} (hl : plainOpnds op = some l) (h : ∀ x ∈ l, opnd c t x = opnd c t' x) : bareOp op c t = bareOp op c t' := by
  unfold bareOp
  cases op with
  | binOp b xt x y yt =>
    simp only [plainOpnds, Option.some.injEq] at hl; subst hl
    dsimp only
    rw [h x (by simp), h y (by simp)]
  | unOp b xt x =>
    simp only [plainOpnds, Option.some.injEq] at hl; subst hl
    cases b <;> dsimp only <;> rw [h x (by simp)]
  | convert b xt x =>
    simp only [plainOpnds, Option.some.injEq] at hl; subst hl
    dsimp only
    rw [h x (by simp)]
  | _ => rfl
theorem gen_congr {c : Cfg} {t t' : List V} {h : Heap} {ans : List Ans} {o : Oper} {l : List Operand} (hl : plainOpnds o.op = some l) (hx : ∀ x ∈ l, opnd c t x = opnd c t' x) : evGen c t h ans o = evGen c t' h ans o := by
  unfold evGen
  rw [bare_congr hl hx, hl]
  dsimp only
  have e1 : l.all (isRaw c t) = l.all (isRaw c t') := by
    rw [Bool.eq_iff_iff, List.all_eq_true, List.all_eq_true]
    exact forall_congr' fun x => forall_congr' fun hm => by rw [isRaw_congr (hx x hm)]
  rw [e1, execOp_congr hl fun x hm => rawOf_congr (hx x hm)]
theorem evOp_congr {c : Cfg} {cf : CallF} {lim : Nat} {t t' : List V} {h : Heap} {ans : List Ans} {o : Oper} {l : List Operand} (hl : usedOpnds ans o.op = some l) (hx : ∀ x ∈ l, opnd c t x = opnd c t' x) :
    evOp c cf lim t h ans o = evOp c cf lim t' h ans o := by
  obtain ⟨dst, op, ty, pos, after, guard⟩ := o
  cases op with
  | move x => simp only [usedOpnds, Option.some.injEq] at hl; subst hl; simp only [evOp]; rw [hx x (by simp)]
  | assign x => simp only [usedOpnds, Option.some.injEq] at hl; subst hl; simp only [evOp]; rw [hx x (by simp)]
  | load T x => simp only [usedOpnds, Option.some.injEq] at hl; subst hl; simp only [evOp]; rw [hx x (by simp)]
  | fieldAddr T x f => simp only [usedOpnds, Option.some.injEq] at hl; subst hl; simp only [evOp]; rw [hx x (by simp)]
  | nilCheck x => simp only [usedOpnds, Option.some.injEq] at hl; subst hl; simp only [evOp]; rw [hx x (by simp)]
  | makeFunc f x y =>
    simp only [usedOpnds, Option.some.injEq] at hl; subst hl; simp only [evOp]
    rw [opnds_congr x.toList fun z hz => hx z (List.mem_append_left _ hz), opnds_congr y.toList fun z hz => hx z (List.mem_append_right _ hz)]
  | pick x y z =>
    simp only [usedOpnds] at hl
    split at hl
    · rename_i q ans'
      simp only [Option.some.injEq] at hl; subst hl
      simp only [evOp]
      rw [hx x (by simp)]
      have h2 := hx (if q then y else z) (by simp)
      split
      · rename_i e
        simp only [List.cons.injEq, Ans.br.injEq] at e
        obtain ⟨rfl, rfl⟩ := e
        rw [h2]
      · rfl
    · cases hl
  | call k =>
    obtain ⟨callee, args, ats⟩ := k
    cases callee with
    | value f =>
      simp only [usedOpnds, Option.some.injEq] at hl; subst hl; simp only [evOp]
      rw [hx f List.mem_cons_self, opnds_congr args.toList fun z hz => hx z (List.mem_cons_of_mem _ hz)]
    | builtin b =>
      have hg := gen_congr (h := h) (ans := ans) (o := ⟨dst, .call ⟨.builtin b, args, ats⟩, ty, pos, after, guard⟩) hl hx
      cases b with
      | len =>
        simp only [evOp]
        have e : lenV c t args ats = lenV c t' args ats := by
          simp only [usedOpnds, plainOpnds, Option.some.injEq] at hl
          unfold lenV
          split
          · rename_i x T ha _
            rw [hx x (by rw [← hl, ha]; simp)]
          · rfl
        rw [e, hg]
      | _ => exact hg
    | invoke x n => exact gen_congr (o := ⟨dst, .call ⟨.invoke x n, args, ats⟩, ty, pos, after, guard⟩) hl hx
  | indexAddr T x ix =>
    simp only [usedOpnds, Option.some.injEq] at hl; subst hl; simp only [evOp, indexV]
    rw [hx x (by simp), hx ix (by simp)]
  | buildSlice T n ps => simp [usedOpnds] at hl
  | binOp b T x y U =>
    have hg := gen_congr (h := h) (ans := ans) (o := ⟨dst, .binOp b T x y U, ty, pos, after, guard⟩) hl hx
    simp only [usedOpnds, plainOpnds, Option.some.injEq] at hl; subst hl; simp only [evOp, eqV]
    rw [hx x (by simp), hx y (by simp), hg]
  | alloc T => simp [usedOpnds] at hl
  | box T x => simp [usedOpnds] at hl
  | store T x y => simp [usedOpnds] at hl
  | unOp b xt x => exact gen_congr (o := ⟨dst, .unOp b xt x, ty, pos, after, guard⟩) hl hx
  | convert b xt x => exact gen_congr (o := ⟨dst, .convert b xt x, ty, pos, after, guard⟩) hl hx
  | field b x n => exact gen_congr (o := ⟨dst, .field b x n, ty, pos, after, guard⟩) hl hx
  | index b x n => exact gen_congr (o := ⟨dst, .index b x n, ty, pos, after, guard⟩) hl hx
  | extract x n => exact gen_congr (o := ⟨dst, .extract x n, ty, pos, after, guard⟩) hl hx
  | build T ps => exact gen_congr (o := ⟨dst, .build T ps, ty, pos, after, guard⟩) hl hx
  | _ => simp [usedOpnds, plainOpnds] at hl
section
variable {P : Program} {w : World} {g : Operand → Value} {dst : Option Tmp} {ty : TypeId} {pos : String} {after : Array Edge} {guard : Option (Nat × Bool)}
theorem alloc_run {T : TypeId} {z : Value} (hz : pureRun P (zeroValue T) = some z) : (execOp g ⟨dst, .alloc T, ty, pos, after, guard⟩).run P w = .ok (.value (.pointer (some ⟨w.heap.size, 0, none⟩))) (w.alloc (.cells z.cells T)) := by
  have hz' := pureRun_run hz
  simp only [execOp, Instr.alloc, newVar, newRow, newObj]
  generalize zeroValue T = s at hz' ⊢
  simp [go_sem, hz']
  rfl
theorem box_run {T : TypeId} {x : Operand} : (execOp g ⟨dst, .box T x, ty, pos, after, guard⟩).run P w = .ok (.value (.pointer (some ⟨w.heap.size, 0, none⟩))) (w.alloc (.cells (g x).cells T)) := by
  simp only [execOp, Instr.box, newVar, newRow, newObj]
  generalize (g x).cells = q
  simp [go_sem]
  rfl
theorem store_run {T : TypeId} {x y : Operand} {b off n : Nat} {vs : List Value} {cur : Array Value} {tb : TypeId} (hx : g x = .pointer (some ⟨b, off, none⟩)) (hsz : pureRun P (Go.sizeOf T) = some n) (hcs : (g y).cells.toList = vs) (hn : vs.length = n) (hone : ∀ v ∈ vs, v.oneCell' = true)
    (hb : w.heap[b]? = some (.cells cur tb (0, 0))) (hle : off + n ≤ cur.size) :
    (execOp g ⟨dst, .store T x y, ty, pos, after, guard⟩).run P w = .ok .skip (w.setRow b (List.take off cur.toList ++ vs ++ List.drop (off + n) cur.toList).toArray) := by
  have h3 := run_storeCells_at P b off tb vs 0 cur w hb (by omega) hone
  rw [hn] at h3
  have hsize : (g y).cells.size = n := by rw [← Array.length_toList, hcs, hn]
  have e : execOp g ⟨dst, .store T x y, ty, pos, after, guard⟩ = (do storeVar T ⟨b, off, none⟩ (g y); pure Next.skip) := by simp only [execOp, Instr.storeAt, Instr.sureAddr, hx]; rfl
  rw [e]
  unfold storeVar
  generalize (g y).cells = cl at hcs hsize ⊢
  simp [go_sem, pureRun_run hsz, hsize, hcs, h3]
theorem setRow_rewrites {b : Nat} {cs cur : Array Value} {tb : TypeId} (hb : w.heap[b]? = some (.cells cur tb (0, 0))) : R.Rewrites w (w.setRow b cs) b tb cs :=
  ⟨rfl, rfl, rfl, by simp [World.setRow], fun k hk => setRow_heap w b cs k hk, setRow_this w b cs cur tb hb⟩
end
section
variable {c : Cfg} {lim : Nat} {ops : Array Oper} {its : List AItem} {n0 : Nat} {t0 : List V}
theorem writer_spec {s j : Nat} (h : writer ops s = some j) : j < ops.size ∧ ∃ o, ops[j]? = some o ∧ o.dst = some s := by
  unfold writer at h
  have h1 := List.find?_some h
  have h2 := List.mem_range.1 (List.mem_of_find?_eq_some h)
  refine ⟨h2, ops[j], Array.getElem?_eq_getElem h2, ?_⟩
  simpa [Array.getElem?_eq_getElem h2] using h1
theorem writer_none {s : Nat} (h : writer ops s = none) (j : Nat) (o : Oper) (ho : ops[j]? = some o) : o.dst ≠ some s := by
  unfold writer at h
  rw [List.find?_eq_none] at h
  have hlt := R.itm_lt ho
  have := h j (List.mem_range.2 hlt)
  simpa [ho] using this
theorem putT_other {t : List V} {d : Option Nat} {v : V} {s : Nat} (h : d ≠ some s) : (putT t d v)[s]? = t[s]? := by
  cases d with
  | none => rfl
  | some d => exact List.getElem?_set_ne (fun e => h (by rw [e]))
theorem putT_len {t : List V} {d : Option Nat} {v : V} : (putT t d v).length = t.length := by
  cases d <;> simp [putT]
theorem tAt_len : ∀ k, (tAt ops its n0 t0 k).length = t0.length
  | 0 => rfl
  | k + 1 => by
    simp only [tAt]
    split
    · rw [putT_len, tAt_len k]
    · exact tAt_len k
theorem tAt_untouched {s : Nat} (h : writer ops s = none) : ∀ k, (tAt ops its n0 t0 k)[s]? = t0[s]?
  | 0 => rfl
  | k + 1 => by
    simp only [tAt]
    split
    · rename_i o it ho _
      rw [putT_other (writer_none h k o ho), tAt_untouched h k]
    · exact tAt_untouched h k
theorem tAt_written {s j : Nat} {o : Oper} {it : AItem} (ho : ops[j]? = some o) (hd : o.dst = some s) (hi : its[j]? = some it) (hs : s < t0.length)
    (once : ∀ (i : Nat) (p : Oper), ops[i]? = some p → p.dst = some s → i = j) : ∀ k, j < k → (tAt ops its n0 t0 k)[s]? = some (it.slot n0 (its.take j))
  | 0, h => by omega
  | k + 1, h => by
    rcases Nat.lt_or_ge j k with hlt | hge
    · have ih := tAt_written ho hd hi hs once k hlt
      simp only [tAt]
      split
      · rename_i p jt hp _
        rw [putT_other (fun e => by have := once k p hp e; omega), ih]
      · exact ih
    · obtain rfl : j = k := by omega
      simp only [tAt, ho, hi, hd, putT]
      rw [List.getElem?_set_self (by rw [tAt_len]; exact hs)]
theorem seen_take {k : Nat} {o : Oper} {x : Operand} (h : seen ops (its.take k) o x = true) : seen ops its o x = true := by
  cases x with
  | tmp s =>
    simp only [seen, visible] at h ⊢
    split at h
    · rfl
    · rename_i j hj
      rw [Bool.and_eq_true] at h ⊢
      refine ⟨h.1, ?_⟩
      have h2 := h.2
      cases hjt : (its.take k)[j]? with
      | none => rw [hjt] at h2; cases h2
      | some it =>
        have : its[j]? = some it := by
          rw [List.getElem?_take] at hjt
          split at hjt
          · exact hjt
          · cases hjt
        rw [this]
        rw [hjt] at h2
        exact h2
  | _ => rfl
theorem known_of {ρ : Ren} {a : Act} {w : World} {h : Heap} (RH : RelH c ρ h w) (RT : RelT ρ h.length t0 a) (sh : R.Shape ops (its.map (AItem.to ρ)) t0.length) (hv : ∀ (j : Nat) (v : V), its[j]? = some (.val v) → v.under h.length = true) {k : Nat} {o : Oper} (ho : ops[k]? = some o) {s : Nat} (hs : visible ops its o s = true) {v : V}
    (ht : (tAt ops its h.length t0 k)[s]? = some v) (hna : ∀ i, v ≠ .any i) : R.known ops (its.map (AItem.to ρ)) a o s = some (v.conc ρ) ∧ v.under h.length = true := by
  unfold R.known
  unfold visible at hs
  cases hw : writer ops s with
  | none =>
    rw [tAt_untouched hw] at ht
    have hw' : (List.range ops.size).find? (fun j => (ops[j]?.bind (·.dst)) == some s) = none := hw
    simp only [hw']
    refine ⟨by rw [RT.tmps]; simp [concs_get, ht], ?_⟩
    have := RT.sco v (List.mem_of_getElem? ht)
    cases v with
    | any i => exact absurd rfl (hna i)
    | _ => exact this
  | some j =>
    rw [hw] at hs
    simp only [Bool.and_eq_true] at hs
    obtain ⟨hb, hj⟩ := hs
    have hw' : (List.range ops.size).find? (fun j => (ops[j]?.bind (·.dst)) == some s) = some j := hw
    simp only [hw']
    obtain ⟨hlt, p, hp, hd⟩ := writer_spec hw
    cases hi : its[j]? with
    | none => rw [hi] at hj; cases hj
    | some it =>
      rw [hi] at hj
      cases it with
      | val u =>
        have hjk : j < k := by
          unfold bound at hb
          rw [List.any_eq_true] at hb
          obtain ⟨e, he, hb⟩ := hb
          rw [Bool.and_eq_true, beq_iff_eq] at hb
          have := sh.back k o ho e (Array.mem_toList_iff.1 he) hb.1
          omega
        have h1 := tAt_written (n0 := h.length) hp hd hi (sh.lt j p s hp hd) (fun i q hq hqd => sh.once i j q p s hq hp hqd hd) k hjk
        rw [h1] at ht
        simp only [AItem.slot, Option.some.injEq] at ht
        subst ht
        unfold bound at hb
        rw [if_pos hb]
        refine ⟨by simp [hi, AItem.to], hv j u hi⟩
      | _ => cases hj
def mask (ops : Array Oper) (its : List AItem) (o : Oper) (t : List V) (n : Nat) : List V :=
  (List.range n).map fun s => if visible ops its o s then (match t[s]? with
    | some (.any _) => .any s
    | some v => v
    | none => .any s) else .any s
def Ren.at (ρ : Ren) (a : Act) : Ren := ⟨ρ.blk, fun s => a.tmps.getD s undef⟩
theorem mask_rel {ρ : Ren} {a0 a : Act} {w : World} {h : Heap} (RH : RelH c ρ h w) (RT : RelT ρ h.length t0 a0) (sh : R.Shape ops (its.map (AItem.to ρ)) t0.length) (hv : ∀ (j : Nat) (v : V), its[j]? = some (.val v) → v.under h.length = true) {k : Nat} {o : Oper} (ho : ops[k]? = some o)
    (E : R.Env ops (its.map (AItem.to ρ)) a0 o a) : RelT (ρ.at a) h.length (mask ops its o (tAt ops its h.length t0 k) a.tmps.size) a := by
  refine ⟨?_, fun x hx => ?_⟩
  · apply Array.ext_getElem?
    intro s
    rcases Nat.lt_or_ge s a.tmps.size with hs | hs
    · have et : ∀ l : List Value, l.toArray[s]? = l[s]? := fun l => List.getElem?_toArray
      rw [et (concs (ρ.at a) (mask ops its o (tAt ops its h.length t0 k) a.tmps.size)), concs_get]
      simp only [mask, List.getElem?_map, List.getElem?_range hs, Option.map_some]
      have hdef : a.tmps[s]? = some ((V.any s).conc (ρ.at a)) := by simp [V.conc, Ren.at, hs]
      split
      · rename_i hvis
        split
        · exact hdef
        · rename_i v hna ht
          obtain ⟨h1, h2⟩ := known_of RH RT sh hv ho hvis ht (fun i e => hna i (by rw [e]))
          rw [E s _ h1, V.conc_agree (ρ := ρ) (ρ' := ρ.at a) (fun _ _ => rfl) v h2]
        · exact hdef
      · exact hdef
    · have et : ∀ l : List Value, l.toArray[s]? = l[s]? := fun l => List.getElem?_toArray
      rw [Array.getElem?_eq_none hs, et (concs (ρ.at a) (mask ops its o (tAt ops its h.length t0 k) a.tmps.size)), List.getElem?_eq_none (by rw [concs_length]; simp [mask, hs])]
  · simp only [mask, List.mem_map, List.mem_range] at hx
    obtain ⟨s, hs, rfl⟩ := hx
    split
    · rename_i hvis
      split
      · rfl
      · rename_i v hna ht
        exact V.slot_of_under _ (known_of RH RT sh hv ho hvis ht (fun i e => hna i (by rw [e]))).2
      · rfl
    · rfl
theorem mask_opnd {ρ : Ren} {a0 a : Act} {w : World} {h : Heap} (RH : RelH c ρ h w) (RT : RelT ρ h.length t0 a0) (sh : R.Shape ops (its.map (AItem.to ρ)) t0.length) (hv : ∀ (j : Nat) (v : V), its[j]? = some (.val v) → v.under h.length = true) {k : Nat} {o : Oper} (ho : ops[k]? = some o)
    (E : R.Env ops (its.map (AItem.to ρ)) a0 o a) {x : Operand} (hx : seen ops its o x = true) : opnd c (mask ops its o (tAt ops its h.length t0 k) a.tmps.size) x = opnd c (tAt ops its h.length t0 k) x := by
  cases x with
  | tmp s =>
    simp only [opnd]
    simp only [seen] at hx
    rcases Nat.lt_or_ge s a.tmps.size with hs | hs
    · simp only [mask, List.getElem?_map, List.getElem?_range hs, Option.map_some, hx, if_true]
      cases ht : (tAt ops its h.length t0 k)[s]? with
      | none => rfl
      | some v => cases v <;> rfl
    · rw [List.getElem?_eq_none (by simp [mask, hs])]
      cases ht : (tAt ops its h.length t0 k)[s]? with
      | none => rfl
      | some v =>
        have key : (∀ i, v ≠ .any i) → False := fun hna => by
          obtain ⟨h1, _⟩ := known_of RH RT sh hv ho hx ht hna
          have := E s _ h1
          rw [Array.getElem?_eq_none hs] at this
          cases this
        cases v with
        | any i => rfl
        | _ => exact (key (fun i e => by cases e)).elim
  | _ => rfl
theorem killed_len (L : Nat) (olds : List (Nat × Nat)) (i : Nat) : ∀ (h : Heap), (killed L ops olds i h).length = h.length := by
  unfold killed
  induction olds with
  | nil => intro h; rfl
  | cons p l ih =>
    intro h
    simp only [List.foldl_cons]
    rw [ih]
    split
    · rfl
    · simp [killOne]
theorem killed_low (L : Nat) (olds : List (Nat × Nat)) (i b : Nat) (hb : b < L) : ∀ (h : Heap), (killed L ops olds i h)[b]? = h[b]? := by
  unfold killed
  induction olds with
  | nil => intro h; rfl
  | cons p l ih =>
    intro h
    simp only [List.foldl_cons]
    rw [ih]
    split
    · rfl
    · rename_i hw
      simp only [Bool.or_eq_true, decide_eq_true_eq, not_or] at hw
      simp only [killOne]
      exact List.getElem?_set_ne (by omega)
theorem killed_get (L : Nat) (olds : List (Nat × Nat)) (i : Nat) : ∀ (h : Heap) (b : Nat) (B : Blk), (killed L ops olds i h)[b]? = some (some B) → h[b]? = some (some B) ∧ ∀ j, L ≤ b → (j, b) ∈ olds → R.waitsFor ops j i = true := by
  unfold killed
  induction olds with
  | nil => intro h b B hb; exact ⟨hb, by simp⟩
  | cons p l ih =>
    intro h b B hb
    simp only [List.foldl_cons] at hb
    obtain ⟨h1, h2⟩ := ih _ b B hb
    split at h1
    · rename_i hw
      refine ⟨h1, fun j hL hj => ?_⟩
      rcases List.mem_cons.1 hj with e | hj
      · rw [← e] at hw
        simp only [Bool.or_eq_true, decide_eq_true_eq] at hw
        rcases hw with hw | hw
        · exact hw
        · omega
      · exact h2 j hL hj
    · rename_i hw
      have hne : b ≠ p.2 := by
        rintro rfl
        simp only [killOne] at h1
        rcases Nat.lt_or_ge p.2 h.length with hl | hl
        · rw [List.getElem?_set_self hl] at h1; cases h1
        · rw [List.getElem?_eq_none (by simpa using hl)] at h1; cases h1
      simp only [killOne] at h1
      rw [List.getElem?_set_ne (Ne.symm hne)] at h1
      refine ⟨h1, fun j hL hj => ?_⟩
      rcases List.mem_cons.1 hj with e | hj
      · exact absurd (congrArg Prod.snd e) hne
      · exact h2 j hL hj
theorem killed_rel {ρ : Ren} {h : Heap} {w0 w : World} (RH : RelH c ρ h w0) (hL : c.L ≤ lim) {olds : List (Nat × Nat)} (ho : ∀ (j b : Nat) (T : TypeId) (cs : List V), its[j]? = some (.old b T cs) → (j, b) ∈ olds ∧ lim ≤ b ∧ b < h.length) {i : Nat}
    (K : R.Kept (R.isOld ops (its.map (AItem.to ρ)) i) w0 w) (a : Act) : RelH c (ρ.at a) (killed c.L ops olds i h) w := by
  refine ⟨fun b B hb => ?_, fun b hb => ?_, fun b b' h1 h2 h3 h4 => ?_, fun b B hb => ?_, fun p hp => ?_, by rw [killed_len]; exact RH.big, fun b hb => by rw [killed_low _ _ _ _ hb]; exact RH.base b hb⟩
  · obtain ⟨h1, h2⟩ := killed_get c.L olds i h b B hb
    obtain ⟨fr, h3, h4⟩ := RH.cell b B h1
    have hbl : b < h.length := by
      rcases Nat.lt_or_ge b h.length with h5 | h5
      · exact h5
      · rw [List.getElem?_eq_none h5] at h1; cases h1
    refine ⟨fr, ?_, h4⟩
    rw [concs_agree (ρ := ρ) (ρ' := ρ.at a) (fun _ _ => rfl) _ (RH.sco b B h1)]
    refine (K.block _ (RH.lt b hbl) ?_).trans h3
    unfold R.isOld
    rw [List.any_eq_false]
    intro j hj
    rw [List.getElem?_map]
    cases hit : its[j]? with
    | none => simp
    | some it =>
      cases it with
      | old b' T cs =>
        obtain ⟨k1, k2, k3⟩ := ho j b' T cs hit
        simp only [Option.map_some, AItem.to]
        by_cases e : ρ.blk b' = ρ.blk b
        · have := RH.inj b' b (by omega) k3 hbl e
          subst this
          simp [h2 j (by omega) k1]
        · simp [e]
      | _ => simp [AItem.to]
  · rw [killed_len] at hb
    exact Nat.lt_of_lt_of_le (RH.lt b hb) K.size
  · rw [killed_len] at h2 h3
    exact RH.inj b b' h1 h2 h3 h4
  · rw [killed_len]
    exact RH.sco b B (killed_get c.L olds i h b B hb).1
  · rw [killed_len]
    exact RH.glob p hp
end
end Go.Proofs.Yteodlcpcgfjdcaa.E
namespace Go.Proofs.Yteodlcpcgfjdcaa.E
open Go Go.RowKit
section
variable {c : Cfg} {lim : Nat}
theorem putAt_len {cs xs : List V} {off : Nat} (h : off + xs.length ≤ cs.length) : (putAt cs off xs).length = cs.length := by
  simp [putAt]; omega
structure Told (c : Cfg) (cf : CallF) (lim : Nat) (ops : Array Oper) (h : Heap) (olds : List (Nat × Nat)) (D : List AItem) (t : List V) : Prop where
  len : D.length = ops.size
  spec : ∀ (k : Nat) (o : Oper), ops[k]? = some o → ∃ it, D[k]? = some it ∧
    ((∃ cons, BodySpec c cf lim ops h olds (D.take k) (tAt ops D h.length t k) o it cons ∧ (∀ p ∈ cons, p) ∧ (o.guard = none ∨ ∃ j want b, o.guard = some (j, want) ∧ bound o j = true ∧ (ops[j]?).any (·.dst.isSome) = true ∧ D[j]? = some (.val (.raw (.bool b))) ∧ (b == want) = true)) ∨
    (it = .skip ∧ ∃ j want b, o.guard = some (j, want) ∧ bound o j = true ∧ (ops[j]?).any (·.dst.isSome) = true ∧ D[j]? = some (.val (.raw (.bool b))) ∧ (b == want) = false))
theorem take_get {D : List AItem} {k j : Nat} {it : AItem} (h : (D.take k)[j]? = some it) : D[j]? = some it ∧ j < k := by
  rw [List.getElem?_take] at h
  split at h
  · rename_i hlt; exact ⟨h, hlt⟩
  · cases h
theorem told_of {cf : CallF} {ops : Array Oper} {h : Heap} {olds : List (Nat × Nat)} {t : List V} {ans : List Ans} {d : DROut} (he : evDr c cf lim ops h olds [] ops.toList t ans = some d) (hc : ∀ p ∈ d.cons, p) :
    Told c cf lim ops h olds d.its t ∧ d.t = tAt ops d.its h.length t ops.size := by
  obtain ⟨_, h2, h3, h4⟩ := evDr_spec (t0 := t) ops.toList [] t ans d he hc [] rfl rfl (fun its _ => rfl)
  refine ⟨⟨h2, fun k o ho => ?_⟩, h3⟩
  obtain ⟨ansk, dk, k1, k2, k3⟩ := h4 k (Nat.zero_le _) o ho
  refine ⟨dk.it, k3, ?_⟩
  rcases evD1_spec k1 k2 with ⟨cons, b1, b2, b3⟩ | ⟨b1, j, want, b, b2, b3, b4, b5, b6⟩
  · refine .inl ⟨cons, b1, b2, ?_⟩
    rcases b3 with b3 | ⟨j, want, b, c1, c2, c3, c4, c5⟩
    · exact .inl b3
    · exact .inr ⟨j, want, b, c1, c2, c3, (take_get c4).1, c5⟩
  · exact .inr ⟨b1, j, want, b, b2, b3, b4, (take_get b5).1, b6⟩
section
variable {cf : CallF} {ops : Array Oper} {h : Heap} {olds : List (Nat × Nat)} {D : List AItem} {t : List V}
theorem Told.op (H : Told c cf lim ops h olds D t) {j : Nat} {it : AItem} (hj : D[j]? = some it) : ∃ o, ops[j]? = some o := by
  have hlt : j < D.length := by
    rcases Nat.lt_or_ge j D.length with h1 | h1
    · exact h1
    · rw [List.getElem?_eq_none h1] at hj; cases hj
  exact ⟨ops[j]'(by rw [← H.len]; exact hlt), Array.getElem?_eq_getElem _⟩
theorem Told.at (H : Told c cf lim ops h olds D t) {j : Nat} {it : AItem} (hj : D[j]? = some it) (hs : it ≠ .skip) : ∃ o cons, ops[j]? = some o ∧ BodySpec c cf lim ops h olds (D.take j) (tAt ops D h.length t j) o it cons ∧ (∀ p ∈ cons, p) := by
  obtain ⟨o, ho⟩ := H.op hj
  obtain ⟨it', h1, h2⟩ := H.spec j o ho
  obtain rfl := Option.some.inj (hj.symm.trans h1)
  rcases h2 with ⟨cons, b1, b2, _⟩ | ⟨e, _⟩
  · exact ⟨o, cons, ho, b1, b2⟩
  · exact absurd e hs
theorem Told.vals (H : Told c cf lim ops h olds D t) (j : Nat) (v : V) (hj : D[j]? = some (.val v)) : v.under h.length = true := by
  obtain ⟨o, cons, ho, hb, _⟩ := H.at hj (by simp)
  cases hb with
  | val l ans r h1 h2 h3 h4 h5 => exact h5
theorem Told.tk (H : Told c cf lim ops h olds D t) {j : Nat} {it : AItem} (hj : D[j]? = some it) : (D.take j).length = j := by
  have hlt : j < D.length := by
    rcases Nat.lt_or_ge j D.length with h1 | h1
    · exact h1
    · rw [List.getElem?_eq_none h1] at hj; cases hj
  rw [List.length_take]; omega
theorem Told.old (H : Told c cf lim ops h olds D t) (hsco : ∀ (i : Nat) (B : Blk), h[i]? = some (some B) → unders h.length B.cells = true) (j b : Nat) (T : TypeId) (cs : List V) (hj : D[j]? = some (.old b T cs)) :
    ((j, b) ∈ olds ∧ lim ≤ b ∧ b < h.length) ∧ unders h.length cs = true ∧ ∃ B, h[b]? = some (some B) ∧ T = B.ty ∧ cs.length = B.cells.length := by
  obtain ⟨o, cons, ho, hb, _⟩ := H.at hj (by simp)
  cases hb with
  | old Ty s y v xs n _ off B h1 h2 h3 h4 h5 h6 h7 h8 h9 h10 h11 h12 h13 =>
    rw [H.tk hj] at h13
    have hbl : b < h.length := by
      rcases Nat.lt_or_ge b h.length with k | k
      · exact k
      · rw [List.getElem?_eq_none k] at h10; cases h10
    refine ⟨⟨h13, h11, hbl⟩, ?_, B, h10, rfl, putAt_len h12⟩
    refine unders_append (unders_append ?_ (cellsV_under h5 h4)) ?_
    · exact unders_sub (hsco b B h10) fun x hx => List.mem_of_mem_take hx
    · exact unders_sub (hsco b B h10) fun x hx => List.mem_of_mem_drop hx
theorem Told.puts (H : Told c cf lim ops h olds D t) (j k : Nat) (cs : List V) (hj : D[j]? = some (.put k cs)) : unders h.length cs = true ∧ ∃ T z, D[k]? = some (.new T z) ∧ cs.length = z.length := by
  obtain ⟨o, cons, ho, hb, _⟩ := H.at hj (by simp)
  cases hb with
  | put Ty s y v xs n _ T z h1 h2 h3 h4 h5 h6 h7 h8 h9 h10 h11 => exact ⟨cellsV_under h5 h4, T, z, (take_get h10).1, h11⟩
theorem body_notskip {acc : List AItem} {o : Oper} {it : AItem} {cons : List Prop} {tt : List V} (h : BodySpec c cf lim ops h olds acc tt o it cons) : it ≠ .skip := by
  cases h <;> simp
theorem Told.guards (H : Told c cf lim ops h olds D t) (ρ : Ren) (i : Nat) (o : Oper) (it : R.Item) (ho : ops[i]? = some o) (hi : (D.map (AItem.to ρ))[i]? = some it) : R.guardOk ops (D.map (AItem.to ρ)) o it = true := by
  obtain ⟨di, h1, h2⟩ := H.spec i o ho
  rw [List.getElem?_map, h1] at hi
  simp only [Option.map_some, Option.some.injEq] at hi
  subst hi
  have skipEq : ∀ x : AItem, R.isSkip (x.to ρ) = (match x with | .skip => true | _ => false) := fun x => by cases x <;> rfl
  rcases h2 with ⟨cons, b1, _, b3⟩ | ⟨e, j, want, b, c1, c2, c3, c4, c5⟩
  · have hns : R.isSkip (di.to ρ) = false := by
      rw [skipEq]
      cases di <;> first | rfl | exact absurd rfl (body_notskip b1)
    rcases b3 with b3 | ⟨j, want, b, c1, c2, c3, c4, c5⟩
    · simp [R.guardOk, b3, hns]
    · unfold R.guardOk
      rw [c1]
      simp only
      unfold bound at c2
      rw [c2]
      cases hp : ops[j]? with
      | none => rw [hp] at c3; cases c3
      | some p =>
        rw [hp] at c3
        have c3' : p.dst.isSome = true := c3
        have e : (D.map (AItem.to ρ))[j]? = some (.val (.bool b)) := by rw [List.getElem?_map, c4]; rfl
        rw [e]
        simp only [c3', hns, c5]
        rfl
  · subst e
    unfold R.guardOk
    rw [c1]
    simp only
    unfold bound at c2
    rw [c2]
    cases hp : ops[j]? with
    | none => rw [hp] at c3; cases c3
    | some p =>
      rw [hp] at c3
      have c3' : p.dst.isSome = true := c3
      have e : (D.map (AItem.to ρ))[j]? = some (.val (.bool b)) := by rw [List.getElem?_map, c4]; rfl
      rw [e]
      simp only [c3', AItem.to, R.isSkip, c5]
      rfl
theorem evDrawn_steps {ρ : Ren} {a : Act} {w : World} {Q : Exit → Act → World → Prop} (hcf : CallOk c cf) (hfn : ∀ f, c.fns f = true → Callable c.P f) (hL : c.L ≤ lim) (H : Told c cf lim ops h olds D t) (RH : RelH c ρ h w) (RT : RelT ρ h.length t a)
    (sh : R.Shape ops (D.map (AItem.to ρ)) t.length) (i : Nat) (o : Oper) (it : R.Item) (ho : ops[i]? = some o) (hi : (D.map (AItem.to ρ))[i]? = some it) : R.StepOk c.P Q ops (D.map (AItem.to ρ)) a w i o it := by
  obtain ⟨di, h1, h2⟩ := H.spec i o ho
  have htk := H.tk h1
  rw [List.getElem?_map, h1] at hi
  simp only [Option.map_some, Option.some.injEq] at hi
  subst hi
  have hold : ∀ (j b : Nat) (T : TypeId) (cs : List V), D[j]? = some (.old b T cs) → (j, b) ∈ olds ∧ lim ≤ b ∧ b < h.length := fun j b T cs hj => (H.old RH.sco j b T cs hj).1
  have ev : ∀ {a' : Act} {w' : World} {x : Operand} {v : V}, R.Env ops (D.map (AItem.to ρ)) a o a' → R.Kept (R.isOld ops (D.map (AItem.to ρ)) i) w w' → seen ops (D.take i) o x = true → opnd c (tAt ops D h.length t i) x = some v → v.under h.length = true → a'.eval x = v.conc ρ := fun {a' w' x v} E hk hs hx hu => by
    have RTm := mask_rel RH RT sh H.vals ho E
    have RHk := killed_rel RH hL hold hk a'
    have e := mask_opnd RH RT sh H.vals ho E (seen_take hs)
    rw [hx] at e
    have RTm' : RelT (ρ.at a') (killed c.L ops olds i h).length (mask ops D o (tAt ops D h.length t i) a'.tmps.size) a' := by rw [killed_len]; exact RTm
    rw [opnd_eval RHk RTm' e]
    exact V.conc_agree (ρ := ρ) (ρ' := ρ.at a') (n := h.length) (fun _ _ => rfl) v hu
  rcases h2 with ⟨cons, hb, hcons, _⟩ | ⟨rfl, _⟩
  · cases hb with
    | alloc T z hop hz =>
      obtain ⟨dst, op, ty, pos, after, guard⟩ := o
      simp only at hop
      subst hop
      intro a' w' K E hk hK
      unfold Oper.wp
      rw [alloc_run hz]
      rw [concs_raw] at hK
      exact hK
    | box T x v xs hop hs hx hu hxs =>
      have hev := fun a' w' => ev (a' := a') (w' := w') (x := x) (v := v)
      obtain ⟨dst, op, ty, pos, after, guard⟩ := o
      simp only at hop
      subst hop
      intro a' w' K E hk hK
      have e := hev a' w' E hk hs hx hu
      unfold Oper.wp
      rw [box_run, e]
      have e2 : (v.conc ρ).cells = (concs ρ xs).toArray := by apply Array.toList_inj.1; rw [cellsV_conc ρ hxs]
      rw [e2]
      exact hK
    | put Ty s y v xs n k T z hop hs hy hu hxs hsz hn hone hw hk' hzl =>
      have hev := fun a' w' => ev (a' := a') (w' := w') (x := y) (v := v)
      obtain ⟨_, p, hp, hpd⟩ := writer_spec hw
      obtain ⟨dst, op, ty, pos, after, guard⟩ := o
      simp only at hop
      subst hop
      intro T' z' hz' a' w' K b cs0 dd E hk hdd htd hb hcs0 hK
      have e := hev a' w' E hk hs hy hu
      rw [hp] at hdd
      simp only [Option.bind_some, hpd, Option.some.injEq] at hdd
      subst hdd
      rw [List.getElem?_map, (take_get hk').1] at hz'
      simp only [Option.map_some, AItem.to, Option.some.injEq, R.Item.new.injEq] at hz'
      obtain ⟨rfl, rfl⟩ := hz'
      have hx : a'.eval (.tmp s) = .pointer (some ⟨b, 0, none⟩) := by simp [Act.eval, htd]
      have hsize : cs0.size = n := by rw [hcs0]; simp [concs_length]; omega
      unfold Oper.wp
      rw [store_run (n := n) (vs := concs ρ xs) hx hsz (by rw [e]; exact cellsV_conc ρ hxs) (by rw [concs_length]; exact hn) (oneCells_ok ρ xs hone) hb (by omega)]
      have e3 : (List.take 0 cs0.toList ++ concs ρ xs ++ List.drop (0 + n) cs0.toList).toArray = (concs ρ xs).toArray := by
        rw [List.drop_eq_nil_of_le (by simp [hsize])]; simp
      rw [e3]
      exact hK _ (setRow_rewrites hb)
    | old Ty s y v xs n b off B hop hs hy hu hxs hsz hn hone hptr hB hlim hle hmem =>
      have hev := fun a' w' => ev (a' := a') (w' := w') (x := y) (v := v)
      have hbl := (hold i b _ _ h1).2.2
      have hptr' : ∀ a', R.Env ops (D.map (AItem.to ρ)) a o a' → a'.eval (.tmp s) = .pointer (some ⟨ρ.blk b, off, none⟩) := fun a' E => by
        have hvis : visible ops D o s = true ∧ (tAt ops D h.length t i)[s]? = some (.ptr b off) := by
          rcases hptr with ⟨h3, h4⟩ | ⟨k, h3, h4, h5⟩
          · refine ⟨by simp [visible, h3], ?_⟩
            simp only [opnd] at h4
            split at h4
            · cases h4
            · cases h4
            · exact h4
          · obtain ⟨h6, h7⟩ := take_get h5
            obtain ⟨_, p, hp, hpd⟩ := writer_spec h3
            refine ⟨by simp [visible, h3, h4, h6], ?_⟩
            rw [tAt_written hp hpd h6 (sh.lt k p s hp hpd) (fun m q hq hqd => sh.once m k q p s hq hp hqd hpd) i h7]
            rfl
        obtain ⟨h3, _⟩ := known_of RH RT sh H.vals ho hvis.1 hvis.2 (by simp)
        have := E s _ h3
        simp [Act.eval, this, V.conc]
      obtain ⟨dst, op, ty, pos, after, guard⟩ := o
      simp only at hop
      subst hop
      intro a' w' K cs0 E hk hsame hb hcs0 hK
      have e := hev a' w' E hk hs hy hu
      obtain ⟨fr, k1, k2⟩ := RH.cell b B hB
      rw [hsame, k1] at hb
      simp only [Option.some.injEq, Obj.cells.injEq] at hb
      obtain ⟨rfl, _, rfl⟩ := hb
      unfold Oper.wp
      rw [store_run (n := n) (vs := concs ρ xs) (hptr' a' E) hsz (by rw [e]; exact cellsV_conc ρ hxs) (by rw [concs_length]; exact hn) (oneCells_ok ρ xs hone) (hsame.trans k1) (by simp [concs_length]; omega)]
      have e3 : (List.take off (concs ρ B.cells).toArray.toList ++ concs ρ xs ++ List.drop (off + n) (concs ρ B.cells).toArray.toList).toArray = (concs ρ (putAt B.cells off xs)).toArray := by
        simp [putAt, concs_map, List.map_take, List.map_drop, hn]
      rw [e3]
      exact hK _ (setRow_rewrites (hsame.trans k1))
    | val l ansk r hl hs hu he hru =>
      intro a' w' K E hk hK
      have RTm := mask_rel RH RT sh H.vals ho E
      have RHk := killed_rel RH hL hold hk a'
      rw [htk] at he
      have he' := (evOp_congr (c := c) (cf := cf) (lim := h.length) (h := killed c.L ops olds i h) hl (fun x hx => mask_opnd RH RT sh H.vals ho E (seen_take (List.all_eq_true.1 hs x hx)))).trans he
      have RTm' : RelT (ρ.at a') (killed c.L ops olds i h).length (mask ops D o (tAt ops D h.length t i) a'.tmps.size) a' := by rw [killed_len]; exact RTm
      refine evOp_sound hcf hfn he' hcons RHk RTm' RH.big fun ρ' w1 hu' RH1 F1 hv1 => ?_
      have e : r.v.conc ρ' = r.v.conc ρ := V.conc_agree (ρ := ρ) (ρ' := ρ') (n := h.length) (fun j hj => F1.ren j (by rw [killed_len]; exact hj)) _ hru
      rw [e]
      exact hK w1 ⟨F1.os, F1.tape, F1.output, F1.size, fun k hk => F1.blk k hk fun j h3 h4 => by rw [killed_len] at h4; omega⟩
  · trivial
theorem slot_conc {ρ ρ' : Ren} {β : Nat → Nat} (H : Told c cf lim ops h olds D t) (h1 : ∀ i, i < h.length → ρ'.blk i = ρ.blk i) (h2 : ∀ m, m < cntNew D → ρ'.blk (h.length + m) = β (newPos D m)) {k : Nat} {it : AItem} (hk : D[k]? = some it) :
    (it.slot h.length (D.take k)).conc ρ' = R.Item.value β k (it.to ρ) ∧ (it.slot h.length (D.take k)).under (h.length + cntNew D) = true := by
  cases it with
  | val v =>
    have hu := H.vals k v hk
    exact ⟨V.conc_agree h1 v hu, V.under_mono (by omega) v hu⟩
  | new T z =>
    obtain ⟨e1, e2⟩ := newPos_take D k T z hk
    refine ⟨?_, by simp only [AItem.slot, V.under, decide_eq_true_eq]; omega⟩
    simp only [AItem.slot, V.conc, AItem.to, R.Item.value]
    rw [h2 _ e2, e1]
  | put j cs => exact ⟨rfl, rfl⟩
  | old b T cs => exact ⟨rfl, rfl⟩
  | skip => exact ⟨rfl, rfl⟩
theorem fin_rel {ρ ρ' : Ren} {β : Nat → Nat} {a : Act} (H : Told c cf lim ops h olds D t) (RT : RelT ρ h.length t a) (hu : ρ'.unk = ρ.unk) (h1 : ∀ i, i < h.length → ρ'.blk i = ρ.blk i) (h2 : ∀ m, m < cntNew D → ρ'.blk (h.length + m) = β (newPos D m)) :
    ∀ m, RelT ρ' (h.length + cntNew D) (tAt ops D h.length t m) (R.finAct ops (D.map (AItem.to ρ)) β m a)
  | 0 => by
    refine ⟨?_, fun x hx => V.slotOk_mono (by omega) x (RT.sco x hx)⟩
    simp only [tAt, R.finAct, RT.tmps, concs_map]
    congr 1
    exact List.map_congr_left fun x hx => (V.slot_agree h1 hu x (RT.sco x hx)).symm
  | m + 1 => by
    have ih := fin_rel H RT hu h1 h2 m
    simp only [tAt, R.finAct]
    cases ho : ops[m]? with
    | none => simp only; exact ih
    | some o =>
      obtain ⟨it, hi, _⟩ := H.spec m o ho
      rw [List.getElem?_map, hi]
      simp only [Option.map_some]
      obtain ⟨e1, e2⟩ := slot_conc (ρ := ρ) (β := β) H h1 h2 hi
      have := relT_put ih (fun _ _ => rfl) rfl (Nat.le_refl _) (V.slot_of_under _ e2) o.dst
      rw [e1] at this
      cases hd : o.dst with
      | none => rw [hd] at this; exact this
      | some d => rw [hd] at this; exact this
theorem evDrawn_sound (hm : c.P.follows .mixedOrders = true) (hcf : CallOk c cf) (hfn : ∀ f, c.fns f = true → Callable c.P f) (hL : c.L ≤ lim) {id : Nat} {Q : Exit → Act → World → Prop}
    {ans : List Ans} {r : ROut} {ρ : Ren} {a : Act} {w : World} (he : evDrawn c cf lim ops t h ans = some r) (hc : ∀ p ∈ r.cons, p) (RH : RelH c ρ h w) (RT : RelT ρ h.length t a)
    (hQ : ∀ ρ' a' w', ρ'.unk = ρ.unk → a'.defers = a.defers → RelT ρ' r.h.length r.t a' → RelH c ρ' r.h w' → Fr lim ρ h w ρ' r.h w' → Q .normal a' w') : (Code.region id ops true).wp c.P Q a w := by
  unfold evDrawn at he
  split at he
  · rename_i olds ans0
    split at he
    · rename_i d hd
      split at he
      · rename_i hchk
        rw [Bool.and_eq_true] at hchk
        simp only [Option.some.injEq] at he
        subst he
        obtain ⟨H, hdt⟩ := told_of hd hc
        generalize d.its = D at *
        simp only [hdt] at hQ
        have hts : a.tmps.size = t.length := by rw [RT.tmps]; simp [concs_length]
        have RHd : RelH c ρ h w.drew := ⟨RH.cell, RH.lt, RH.inj, RH.sco, RH.glob, RH.big, RH.base⟩
        have hsh := shape_to (ops := ops) ρ _ hchk.1
        have hg := H.guards ρ
        have hlt : ∀ b ∈ oldNames D, lim ≤ b ∧ b < h.length := by
          have gen : ∀ l : List AItem, (∀ (j b : Nat) (T : TypeId) (cs : List V), l[j]? = some (.old b T cs) → lim ≤ b ∧ b < h.length) → ∀ b ∈ oldNames l, lim ≤ b ∧ b < h.length := by
            intro l
            induction l with
            | nil => intro _ b hb; cases hb
            | cons x l ih =>
              intro hl b hb
              have ih' := ih (fun j b T cs hj => hl (j + 1) b T cs (by simpa using hj))
              cases x with
              | old b' T cs =>
                simp only [oldNames, List.mem_cons] at hb
                rcases hb with rfl | hb
                · exact hl 0 b T cs rfl
                · exact ih' b hb
              | _ => exact ih' b hb
          exact gen D fun j b T cs hj => (H.old RH.sco j b T cs hj).1.2
        have hnd : (R.olds (D.map (AItem.to ρ))).Nodup := by
          rw [olds_to]
          refine nodup_map _ (fun x hx y hy e => ?_) (nodupB_iff _ hchk.2)
          exact RH.inj x y (by have := (hlt x hx).1; omega) (hlt x hx).2 (hlt y hy).2 e
        have sh := R.Shape.of hsh hg hnd
        have itm : ∀ (j : Nat) (it : R.Item), (D.map (AItem.to ρ))[j]? = some it → ∃ x, D[j]? = some x ∧ x.to ρ = it := fun j it hj => by
          rw [List.getElem?_map, Option.map_eq_some_iff] at hj
          exact hj
        refine R.wp_region_grow (D.map (AItem.to ρ)) hm (by rw [hts]; exact hsh) hg hnd ?_ ?_ (fun i o it ho hi => evDrawn_steps hcf hfn hL H RHd RT sh i o it ho hi) ?_
        · intro j b T cs hj
          obtain ⟨x, hx, e⟩ := itm j _ hj
          cases x with
          | old b' T' cs' =>
            simp only [AItem.to, R.Item.old.injEq] at e
            obtain ⟨rfl, rfl, rfl⟩ := e
            obtain ⟨⟨_, k1, k2⟩, _, B, k3, k4, k5⟩ := H.old RH.sco j b' T' cs' hx
            obtain ⟨fr, k6, k7⟩ := RH.cell b' B k3
            refine ⟨(concs ρ B.cells).toArray, ?_, ?_⟩
            · show w.heap[ρ.blk b']? = _
              rw [k6, k7 (by omega), k4]
            · simp [concs_length, k5]
          | _ => simp [AItem.to] at e
        · intro i k cs T z hi hk
          obtain ⟨x, hx, e⟩ := itm i _ hi
          obtain ⟨y, hy, e'⟩ := itm k _ hk
          cases x with
          | put k' cs' =>
            simp only [AItem.to, R.Item.put.injEq] at e
            obtain ⟨rfl, rfl⟩ := e
            obtain ⟨_, T', z', k1, k2⟩ := H.puts i k' cs' hx
            rw [k1] at hy
            obtain rfl := Option.some.inj hy
            simp only [AItem.to, R.Item.new.injEq] at e'
            obtain ⟨_, rfl⟩ := e'
            simp [concs_length, k2]
          | _ => simp [AItem.to] at e
        · intro β w' F
          have hlen : (applyOlds D h ++ newBlks D 0 D).length = h.length + cntNew D := by simp [applyOlds_len, newBlks_len]
          have e1 : ∀ i, i < h.length → (⟨fun i => if i < h.length then ρ.blk i else β (newPos D (i - h.length)), ρ.unk⟩ : Ren).blk i = ρ.blk i := fun i hi => by simp [hi]
          have e2 : ∀ m, m < cntNew D → (⟨fun i => if i < h.length then ρ.blk i else β (newPos D (i - h.length)), ρ.unk⟩ : Ren).blk (h.length + m) = β (newPos D m) := fun m _ => by
            simp only
            rw [if_neg (by omega), Nat.add_sub_cancel_left]
          generalize hρ' : (⟨fun i => if i < h.length then ρ.blk i else β (newPos D (i - h.length)), ρ.unk⟩ : Ren) = ρ' at e1 e2
          have eu : ρ'.unk = ρ.unk := by rw [← hρ']
          have RT' := fin_rel (ρ' := ρ') (β := β) H RT eu e1 e2 ops.size
          have news : ∀ m, m < cntNew D → w.heap.size ≤ β (newPos D m) ∧ β (newPos D m) < w'.heap.size := fun m hm => by
            obtain ⟨T, z, hp⟩ := newPos_get D m hm
            obtain ⟨n1, n2, _⟩ := F.news (newPos D m) T (concs ρ z).toArray (by rw [List.getElem?_map, hp]; rfl)
            exact ⟨n1, n2⟩
          have hnotold : ∀ b, b < h.length → (∀ (j : Nat) (T : TypeId) (cs : List V), D[j]? ≠ some (.old b T cs)) → R.isOld ops (D.map (AItem.to ρ)) ops.size (ρ.blk b) = false := fun b hb hn => by
            unfold R.isOld
            rw [List.any_eq_false]
            intro j hj
            rw [List.getElem?_map]
            cases hit : D[j]? with
            | none => simp
            | some it =>
              cases it with
              | old b' T cs =>
                obtain ⟨⟨_, k1, k2⟩, _⟩ := H.old RH.sco j b' T cs hit
                simp only [Option.map_some, AItem.to]
                by_cases e : ρ.blk b' = ρ.blk b
                · have := RH.inj b' b (by omega) k2 hb e
                  subst this
                  exact absurd hit (hn j T cs)
                · simp [e]
              | _ => simp [AItem.to]
          have RH' : RelH c ρ' (applyOlds D h ++ newBlks D 0 D) w' := by
            refine ⟨fun i B hi => ?_, fun i hi => ?_, fun i j h1 h2 h3 h4 => ?_, fun i B hi => ?_, fun p hp => ?_, by rw [hlen]; have := RH.big; omega, fun i hi => ?_⟩
            · rcases Nat.lt_or_ge i h.length with hlt' | hge
              · rw [List.getElem?_append_left (by rw [applyOlds_len]; exact hlt')] at hi
                rcases applyOlds_get D h i B hi with ⟨j, hj⟩ | ⟨k1, k2⟩
                · have hcu := (H.old RH.sco j i _ _ hj).2.1
                  refine ⟨(0, 0), ?_, fun _ => rfl⟩
                  rw [e1 i hlt', concs_agree e1 _ hcu]
                  exact F.olds j (ρ.blk i) B.ty _ (by rw [List.getElem?_map, hj]; rfl)
                · obtain ⟨fr, k3, k4⟩ := RH.cell i B k1
                  refine ⟨fr, ?_, k4⟩
                  rw [e1 i hlt', concs_agree e1 _ (RH.sco i B k1)]
                  exact (F.kept.block _ (RH.lt i hlt') (hnotold i hlt' k2)).trans k3
              · rw [List.getElem?_append_right (by rw [applyOlds_len]; exact hge), applyOlds_len] at hi
                have hm' : i - h.length < cntNew D := by
                  rcases Nat.lt_or_ge (i - h.length) (cntNew D) with k | k
                  · exact k
                  · rw [List.getElem?_eq_none (by rw [newBlks_len]; exact k)] at hi; cases hi
                obtain ⟨⟨z, k1⟩, k2⟩ := newBlks_get D D 0 _ B hi
                rw [Nat.zero_add] at k2
                obtain ⟨j, hj⟩ := putOf_get k2
                have hcu := (H.puts j _ _ hj).1
                refine ⟨(0, 0), ?_, fun _ => rfl⟩
                have e3 := e2 _ hm'
                rw [show h.length + (i - h.length) = i by omega] at e3
                rw [e3, concs_agree e1 _ hcu]
                exact F.puts j _ _ B.ty (concs ρ z).toArray (by rw [List.getElem?_map, hj]; rfl) (by rw [List.getElem?_map, k1]; rfl)
            · rw [hlen] at hi
              rcases Nat.lt_or_ge i h.length with hlt' | hge
              · rw [e1 i hlt']; exact Nat.lt_of_lt_of_le (RH.lt i hlt') F.kept.size
              · have e3 := e2 (i - h.length) (by omega)
                rw [show h.length + (i - h.length) = i by omega] at e3
                rw [e3]; exact (news _ (by omega)).2
            · rw [hlen] at h2 h3
              rcases Nat.lt_or_ge i h.length with hi | hi <;> rcases Nat.lt_or_ge j h.length with hj | hj
              · rw [e1 i hi, e1 j hj] at h4; exact RH.inj i j h1 hi hj h4
              · have e3 := e2 (j - h.length) (by omega)
                rw [show h.length + (j - h.length) = j by omega] at e3
                rw [e1 i hi, e3] at h4
                have k1 := RH.lt i hi
                have k2 := (news (j - h.length) (by omega)).1
                omega
              · have e3 := e2 (i - h.length) (by omega)
                rw [show h.length + (i - h.length) = i by omega] at e3
                rw [e1 j hj, e3] at h4
                have k1 := RH.lt j hj
                have k2 := (news (i - h.length) (by omega)).1
                omega
              · have e3 := e2 (i - h.length) (by omega)
                have e4 := e2 (j - h.length) (by omega)
                rw [show h.length + (i - h.length) = i by omega] at e3
                rw [show h.length + (j - h.length) = j by omega] at e4
                rw [e3, e4] at h4
                obtain ⟨T, z, hp⟩ := newPos_get D (i - h.length) (by omega)
                obtain ⟨T', z', hp'⟩ := newPos_get D (j - h.length) (by omega)
                by_cases hpe : newPos D (i - h.length) = newPos D (j - h.length)
                · have := newPos_inj D _ _ (by omega) (by omega) hpe
                  omega
                · exact absurd h4 (F.apart _ _ T T' (concs ρ z).toArray (concs ρ z').toArray (by rw [List.getElem?_map, hp]; rfl) (by rw [List.getElem?_map, hp']; rfl) hpe)
            · rw [hlen]
              rcases Nat.lt_or_ge i h.length with hlt' | hge
              · rw [List.getElem?_append_left (by rw [applyOlds_len]; exact hlt')] at hi
                rcases applyOlds_get D h i B hi with ⟨j, hj⟩ | ⟨k1, k2⟩
                · exact unders_mono (by omega) _ (H.old RH.sco j i _ _ hj).2.1
                · exact unders_mono (by omega) _ (RH.sco i B k1)
              · rw [List.getElem?_append_right (by rw [applyOlds_len]; exact hge), applyOlds_len] at hi
                obtain ⟨⟨z, k1⟩, k2⟩ := newBlks_get D D 0 _ B hi
                rw [Nat.zero_add] at k2
                obtain ⟨j, hj⟩ := putOf_get k2
                exact unders_mono (by omega) _ (H.puts j _ _ hj).1
            · obtain ⟨k1, k2⟩ := RH.glob p hp
              exact ⟨by rw [e1 _ k2, k1], by rw [hlen]; omega⟩
            · rw [List.getElem?_append_left (by rw [applyOlds_len]; have := RH.big; omega), applyOlds_low D i (fun b hb => by have := (hlt b hb).1; omega), RH.base i hi]
          have F' : Fr lim ρ h w ρ' (applyOlds D h ++ newBlks D 0 D) w' := by
            refine ⟨F.kept.os, F.kept.tape, F.kept.output, F.kept.size, fun k hk hn => ?_, e1, by rw [hlen]; omega, fun i h1 h2 => ?_⟩
            · refine F.kept.block k hk ?_
              unfold R.isOld
              rw [List.any_eq_false]
              intro j hj
              rw [List.getElem?_map]
              cases hit : D[j]? with
              | none => simp
              | some it =>
                cases it with
                | old b' T cs =>
                  obtain ⟨⟨_, k1, k2⟩, _⟩ := H.old RH.sco j b' T cs hit
                  have := hn b' k1 k2
                  simp [AItem.to, this]
                | _ => simp [AItem.to]
            · rw [hlen] at h2
              have e3 := e2 (i - h.length) (by omega)
              rw [show h.length + (i - h.length) = i by omega] at e3
              rw [e3]
              exact (news _ (by omega)).1
          rw [← hlen] at RT'
          exact hQ ρ' _ w' eu (R.finAct_size _).2 RT' RH' F'
      · cases he
    · cases he
  · cases he
end
end
end Go.Proofs.Yteodlcpcgfjdcaa.E
namespace Go.Proofs.Yteodlcpcgfjdcaa.E
open Go Go.RowKit
section
variable {c : Cfg} {lim : Nat}
theorem Runs.go {code : Code} {t t' : List V} {h h' : Heap} {e : Ex} (hr : Runs c lim code t h e t' h') {ρ : Ren} {a : Act} {w : World} (RT : RelT ρ h.length t a) (RH : RelH c ρ h w) {Q : Exit → Act → World → Prop}
    (hQ : ∀ ρ' a' w', a'.defers = a.defers → RelT ρ' h'.length t' a' → RelH c ρ' h' w' → Fr lim ρ h w ρ' h' w' → Q e.to a' w') : code.wp c.P Q a w :=
  wp_mono (hr ρ a w RT RH) fun x a' w' ⟨hx, ρ', h1, h2, h3, h4⟩ => by subst hx; exact hQ ρ' a' w' h1 h2 h3 h4
theorem iter_sound {x : Code} {body : List V → Heap → List Ans → Option COut} (hb : ∀ t h ans r, body t h ans = some r → (∀ p ∈ r.cons, p) → Runs c lim x t h r.e r.t r.h) :
    ∀ (n : Nat) (t : List V) (h : Heap) (ans : List Ans) (r : COut), iter body n t h ans = some r → (∀ p ∈ r.cons, p) → ∀ (ρ : Ren) (a : Act) (w : World), RelT ρ h.length t a → RelH c ρ h w → ∀ Q : Exit → Act → World → Prop,
      (∀ ρ' a' w', a'.defers = a.defers → RelT ρ' r.h.length r.t a' → RelH c ρ' r.h w' → Fr lim ρ h w ρ' r.h w' → r.e ≠ .normal → Q r.e.to a' w') → Code.rounds c.P x Q n a w := by
  intro n
  induction n with
  | zero => intro t h ans r he; simp [iter] at he
  | succ n ih =>
    intro t h ans r he hc ρ a w RT RH Q hQ
    simp only [iter] at he
    split at he
    · cases he
    · rename_i r1 hr1
      rw [rounds_succ]
      split at he
      · rename_i hn
        split at he
        · cases he
        · rename_i q hq
          simp only [Option.some.injEq] at he
          subst he
          refine (hb _ _ _ _ hr1 (fun p hp => hc p (List.mem_append_left _ hp))).go RT RH fun ρ1 a1 w1 d1 RT1 RH1 F1 => ?_
          rw [hn]
          exact ih _ _ _ q hq (fun p hp => hc p (List.mem_append_right _ hp)) ρ1 a1 w1 RT1 RH1 Q fun ρ' a' w' d' RT' RH' F' hne => hQ ρ' a' w' (d'.trans d1) RT' RH' (F1.trans F') hne
      · rename_i hne
        simp only [Option.some.injEq] at he
        subst he
        refine (hb _ _ _ _ hr1 hc).go RT RH fun ρ1 a1 w1 d1 RT1 RH1 F1 => ?_
        have := hQ ρ1 a1 w1 d1 RT1 RH1 F1 hne
        cases he : r1.e with
        | normal => exact absurd he hne
        | exit i => rw [he] at this; exact this
        | ret => rw [he] at this; exact this
theorem litOf_eval {ρ : Ren} {h : Heap} {w : World} {t : List V} {a : Act} (RH : RelH c ρ h w) (RT : RelT ρ h.length t a) {x : Operand} {b : Bool} (hx : litOf t x = some b) : a.eval x = .bool b := by
  unfold litOf at hx
  split at hx
  · rename_i s
    split at hx
    · rename_i b' hb
      simp only [Option.some.injEq] at hx
      subst hx
      have := opnd_eval (c := c) (x := .tmp s) (v := .raw (.bool b')) RH RT (by simp [opnd, hb])
      exact this
    · cases hx
  · cases hx
theorem evCode_sound (hm : c.P.follows .mixedOrders = true) {cf : CallF} (hcf : CallOk c cf) (hfn : ∀ f, c.fns f = true → Callable c.P f) (hL : c.L ≤ lim) :
    ∀ (code : Code) (t : List V) (h : Heap) (ans : List Ans) (r : COut), evCode c cf lim code t h ans = some r → (∀ p ∈ r.cons, p) → Runs c lim code t h r.e r.t r.h := by
  intro code
  induction code with
  | skip =>
    intro t h ans r he hc
    simp only [evCode, Option.some.injEq] at he
    subst he
    exact fun ρ a w RT RH => wp_skip ⟨rfl, ρ, rfl, RT, RH, Fr.refl _ _ _ _⟩
  | label l =>
    intro t h ans r he hc
    simp only [evCode, Option.some.injEq] at he
    subst he
    exact fun ρ a w RT RH => wp_label ⟨rfl, ρ, rfl, RT, RH, Fr.refl _ _ _ _⟩
  | exit id =>
    intro t h ans r he hc
    simp only [evCode, Option.some.injEq] at he
    subst he
    exact fun ρ a w RT RH => wp_exit ⟨rfl, ρ, rfl, RT, RH, Fr.refl _ _ _ _⟩
  | ret =>
    intro t h ans r he hc
    simp only [evCode, Option.some.injEq] at he
    subst he
    exact fun ρ a w RT RH => wp_ret ⟨rfl, ρ, rfl, RT, RH, Fr.refl _ _ _ _⟩
  | region id ops draws =>
    intro t h ans r he hc
    simp only [evCode] at he
    split at he
    · rename_i q hq
      simp only [Option.some.injEq] at he
      subst he
      intro ρ a w RT RH
      cases draws with
      | true => exact evDrawn_sound hm hcf hfn hL hq hc RH RT fun ρ' a' w' _ h1 h2 h3 h4 => ⟨rfl, ρ', h1, h2, h3, h4⟩
      | false => exact wp_region_list (evOps_sound hcf hfn hL _ _ _ _ _ ρ a w hq hc RH RT fun ρ' a' w' _ h1 h2 h3 h4 => ⟨rfl, ρ', h1, h2, h3, h4⟩)
    · cases he
  | seq x y ihx ihy =>
    intro t h ans r he hc
    simp only [evCode] at he
    split at he
    · cases he
    · rename_i r1 hr1
      split at he
      · rename_i hn
        split at he
        · cases he
        · rename_i q hq
          simp only [Option.some.injEq] at he
          subst he
          intro ρ a w RT RH
          refine wp_seq ((ihx _ _ _ _ hr1 (fun p hp => hc p (List.mem_append_left _ hp))).go RT RH fun ρ1 a1 w1 d1 RT1 RH1 F1 => ?_)
          rw [hn]
          exact (ihy _ _ _ _ hq (fun p hp => hc p (List.mem_append_right _ hp))).go RT1 RH1 fun ρ2 a2 w2 d2 RT2 RH2 F2 => ⟨rfl, ρ2, d2.trans d1, RT2, RH2, F1.trans F2⟩
      · rename_i hne
        simp only [Option.some.injEq] at he
        subst he
        intro ρ a w RT RH
        refine wp_seq ((ihx _ _ _ _ hr1 hc).go RT RH fun ρ1 a1 w1 d1 RT1 RH1 F1 => ?_)
        cases he : r1.e with
        | normal => exact absurd he hne
        | exit i => exact ⟨rfl, ρ1, d1, RT1, RH1, F1⟩
        | ret => exact ⟨rfl, ρ1, d1, RT1, RH1, F1⟩
  | cond x y z ihy ihz =>
    intro t h ans r he hc
    simp only [evCode] at he
    split at he
    · rename_i hl
      intro ρ a w RT RH
      refine wp_cond (litOf_eval RH RT hl) ?_
      exact ihy _ _ _ _ he hc ρ a w RT RH
    · rename_i hl
      intro ρ a w RT RH
      refine wp_cond (litOf_eval RH RT hl) ?_
      exact ihz _ _ _ _ he hc ρ a w RT RH
    · split at he
      · rename_i b hb
        split at he
        · rename_i q ans'
          split at he
          · cases he
          · rename_i r1 hr1
            simp only [Option.some.injEq] at he
            subst he
            have hbq : b = q := hc _ List.mem_cons_self
            subst hbq
            intro ρ a w RT RH
            have hev := opnd_eval RH RT hb
            refine wp_cond hev ?_
            cases b with
            | true => exact ihy _ _ _ _ hr1 (fun p hp => hc p (List.mem_cons_of_mem _ hp)) ρ a w RT RH
            | false => exact ihz _ _ _ _ hr1 (fun p hp => hc p (List.mem_cons_of_mem _ hp)) ρ a w RT RH
        · cases he
      · cases he
  | block id x ih =>
    intro t h ans r he hc
    simp only [evCode] at he
    split at he
    · cases he
    · rename_i r1 hr1
      simp only [Option.some.injEq] at he
      subst he
      intro ρ a w RT RH
      refine wp_block ((ih _ _ _ _ hr1 hc).go RT RH fun ρ1 a1 w1 d1 RT1 RH1 F1 => ?_)
      cases he : r1.e with
      | normal => exact ⟨rfl, ρ1, d1, RT1, RH1, F1⟩
      | ret => exact ⟨rfl, ρ1, d1, RT1, RH1, F1⟩
      | exit i =>
        simp only [Ex.to, Exit.inBlock]
        by_cases hi : i = id
        · rw [if_pos hi]
          exact ⟨by simp [hi, Ex.to], ρ1, d1, RT1, RH1, F1⟩
        · rw [if_neg hi]
          exact ⟨by simp [hi, Ex.to], ρ1, d1, RT1, RH1, F1⟩
  | scope x ih =>
    intro t h ans r he hc
    simp only [evCode] at he
    intro ρ a w RT RH
    refine wp_scope_straight ((ih _ _ _ _ he hc).go RT RH fun ρ1 a1 w1 d1 RT1 RH1 F1 => ?_)
    cases he : r.e with
    | normal => exact ⟨rfl, ρ1, d1, RT1, RH1, F1⟩
    | ret => exact ⟨rfl, ρ1, d1, RT1, RH1, F1⟩
    | exit i => exact ⟨rfl, ρ1, d1, RT1, RH1, F1⟩
  | loop x ih =>
    intro t h ans r he hc
    simp only [evCode] at he
    split at he
    · simp only [Option.some.injEq] at he
      subst he
      exact hc _ List.mem_cons_self
    · intro ρ a w RT RH
      exact wp_loop_rounds 200 (iter_sound ih _ _ _ _ _ he hc ρ a w RT RH _ fun ρ' a' w' d' RT' RH' F' _ => ⟨rfl, ρ', d', RT', RH', F'⟩)
  | rangeFunc x y z u => intro t h ans r he; simp [evCode] at he
  | goto l => intro t h ans r he; simp [evCode] at he
  | refuse s => intro t h ans r he; simp [evCode] at he
theorem results_list {ρ : Ren} {h : Heap} {w : World} {t : List V} {a : Act} (RH : RelH c ρ h w) (RT : RelT ρ h.length t a) (F : ResultVar → Sem Value)
    (hF1 : ∀ s, F (.tmp s) = pure (a.tmps.getD s undef)) (hF2 : ∀ s T, F (.cell s T) = (asAddr (a.tmps.getD s undef) >>= fun q => loadVar T q)) : ∀ (l : List ResultVar) (vs : List V), resultsV c t h l = some vs →
    (l.mapM F).run c.P w = .ok (concs ρ vs) w ∧ unders h.length vs = true
  | [], vs, he => by
    simp only [resultsV, Option.some.injEq] at he
    subst he
    exact ⟨rfl, rfl⟩
  | .tmp s :: l, vs, he => by
    simp only [resultsV] at he
    split at he
    · rename_i v us hv hus
      simp only [Option.some.injEq] at he
      subst he
      obtain ⟨h1, h2⟩ := results_list RH RT F hF1 hF2 l us hus
      have e1 := opnd_eval RH RT hv
      simp only [Act.eval] at e1
      refine ⟨?_, by simp [unders, h2, opnd_under RH RT hv]⟩
      simp only [List.mapM_cons, concs, hF1, e1]
      simp [go_sem, h1]
    · cases he
  | .cell s T :: l, vs, he => by
    simp only [resultsV] at he
    split at he
    · rename_i b off hv
      split at he
      · rename_i v us hl hus
        simp only [Option.some.injEq] at he
        subst he
        obtain ⟨h1, h2⟩ := results_list RH RT F hF1 hF2 l us hus
        obtain ⟨h3, h4⟩ := load_conc RH hl
        have e1 := opnd_eval RH RT hv
        simp only [Act.eval, V.conc] at e1
        refine ⟨?_, by simp [unders, h2, h4]⟩
        have e2 : F (.cell s T) = loadVar T ⟨ρ.blk b, off, none⟩ := by rw [hF2, e1]; rfl
        simp only [List.mapM_cons, concs, e2]
        generalize loadVar T ⟨ρ.blk b, off, none⟩ = q at h3 ⊢
        simp [go_sem, h1, h3]
      · cases he
    · cases he
theorem oneOf_ok {ρ : Ren} {n : Nat} {vs : List V} (hu : unders n vs = true) : (oneOf vs).conc ρ = (if h : (concs ρ vs).toArray.size = 1 then (concs ρ vs).toArray[0] else Value.tuple (concs ρ vs).toArray) ∧ (oneOf vs).under n = true := by
  match vs, hu with
  | [], _ => exact ⟨by simp [oneOf, mkTup_conc, concs], rfl⟩
  | [v], hu =>
    refine ⟨by simp [oneOf, concs], ?_⟩
    simp only [unders, Bool.and_true] at hu
    exact hu
  | v :: u :: l, hu => exact ⟨by simp [oneOf, mkTup_conc, concs], mkTup_under hu⟩
theorem results_ok {ρ : Ren} {h : Heap} {w : World} {t : List V} {a : Act} (RH : RelH c ρ h w) (RT : RelT ρ h.length t a) {fn : Func} {vs : List V} (hv : resultsV c t h fn.results.toList = some vs) :
    (results fn a.tmps).run c.P w = .ok ((oneOf vs).conc ρ) w ∧ (oneOf vs).under h.length = true := by
  unfold results
  obtain ⟨h1, h2⟩ := results_list RH RT (fun x => match x with
    | ResultVar.tmp t => pure (a.tmps.getD t undef)
    | ResultVar.cell s T => do
      let q ← asAddr (a.tmps.getD s undef)
      loadVar T q) (fun _ => rfl) (fun _ _ => rfl) _ _ hv
  obtain ⟨h3, h4⟩ := oneOf_ok (ρ := ρ) h2
  refine ⟨?_, h4⟩
  rw [h3]
  simp only [Array.mapM_eq_mapM_toList]
  generalize hq : List.mapM (m := Sem) _ fn.results.toList = q at h1
  clear hq
  simp [go_sem, h1]
theorem evFunc_sound (hm : c.P.follows .mixedOrders = true) (hfn : ∀ f, c.fns f = true → Callable c.P f) : ∀ n, CallOk c (evFunc c n) := by
  intro n
  induction n with
  | zero => intro f args h lim ans out he; simp [evFunc] at he
  | succ n ih =>
    intro f args h lim ans out he hc hL ρ w RH hu
    simp only [evFunc] at he
    split at he
    · simp only [Option.some.injEq] at he
      subst he
      exact (hc _ List.mem_cons_self) _ _ hL ρ w RH hu
    · simp only [Option.some.injEq] at he
      subst he
      exact (hc _ List.mem_cons_self) ρ w RH hu
    · split at he
      · cases he
      · rename_i fn hf
        split at he
        · cases he
        · rename_i code hb
          split at he
          · cases he
          · rename_i r hr
            have fin : ∀ {vs : List V}, r.e ≠ .exit 0 ∧ (∀ i, r.e ≠ .exit i) → resultsV c r.t r.h fn.results.toList = some vs → out = ⟨oneOf vs, r.h, r.ans, r.cons⟩ →
                Calls c.P f (concs ρ args).toArray w fun e w' => ∃ ρ', ρ'.unk = ρ.unk ∧ e = .returned (out.v.conc ρ') ∧ RelH c ρ' out.h w' ∧ Fr lim ρ h w ρ' out.h w' ∧ out.v.under out.h.length = true := by
              intro vs hne hvs ho
              subst ho
              have hrun := evCode_sound hm ih hfn hL code _ _ _ _ hr hc
              have htm : (concs ρ args).toArray ++ Array.replicate (fn.ntmps - (concs ρ args).toArray.size) undef = (concs ρ (args ++ List.replicate (fn.ntmps - args.length) (.raw undef))).toArray := by
                apply Array.toList_inj.1
                simp [concs_map, V.conc]
              refine calls_of_wp hf hb ?_
              rw [htm]
              refine hrun.go (ρ := ρ) ⟨rfl, fun x hx => ?_⟩ RH fun ρ1 a1 w1 d1 RT1 RH1 F1 => ?_
              · rcases List.mem_append.1 hx with h1 | h1
                · exact V.slot_of_under _ ((unders_iff _ _).1 hu x h1)
                · rw [List.eq_of_mem_replicate h1]; rfl
              · obtain ⟨h1, h2⟩ := results_ok RH1 RT1 hvs
                have hag : ∀ i, i < r.h.length → (⟨ρ1.blk, ρ.unk⟩ : Ren).blk i = ρ1.blk i := fun _ _ => rfl
                have hR : ∃ ρ', ρ'.unk = ρ.unk ∧ Ending.returned ((oneOf vs).conc ρ1) = .returned ((oneOf vs).conc ρ') ∧ RelH c ρ' r.h w1 ∧ Fr lim ρ h w ρ' r.h w1 ∧ (oneOf vs).under r.h.length = true := by
                  refine ⟨⟨ρ1.blk, ρ.unk⟩, rfl, by rw [V.conc_agree hag _ h2], ⟨fun i B hi => ?_, RH1.lt, RH1.inj, RH1.sco, RH1.glob, RH1.big, RH1.base⟩, ⟨F1.os, F1.tape, F1.output, F1.size, F1.blk, F1.ren, F1.len, F1.fresh⟩, h2⟩
                  obtain ⟨fr, k1, k2⟩ := RH1.cell i B hi
                  exact ⟨fr, by rw [concs_agree hag _ (RH1.sco i B hi)]; exact k1, k2⟩
                cases he : r.e with
                | exit i => exact absurd he (hne.2 i)
                | normal => exact ⟨d1, _, h1, hR⟩
                | ret => exact ⟨d1, _, h1, hR⟩
            split at he
            · cases he
            · rename_i hne
              split at he
              · cases he
              · rename_i vs hvs
                simp only [Option.some.injEq] at he
                exact fin ⟨hne 0, hne⟩ hvs he.symm
    · cases he
def Paid : List Prop → Prop
  | [] => True
  | p :: l => p ∧ Paid l
theorem Paid.all : ∀ {l : List Prop}, Paid l → ∀ p ∈ l, p
  | [], _, p, hp => by cases hp
  | q :: l, h, p, hp => by
    rcases List.mem_cons.1 hp with rfl | hp
    · exact h.1
    · exact Paid.all h.2 p hp
theorem meets_of (hm : c.P.follows .mixedOrders = true) (hfn : ∀ f, c.fns f = true → Callable c.P f) (hL : c.L ≤ lim) {n : Nat} {f : FuncId} {args : List V} {h h' : Heap} {ans ans' : List Ans} {v : V} {cons : List Prop}
    (he : evFunc c n f args h lim ans = some ⟨v, h', ans', cons⟩) (hc : Paid cons) : Meets c lim f args h v h' :=
  fun ρ w RH hu => evFunc_sound hm hfn n f args h lim ans _ he (fun p hp => hc.all p hp) hL ρ w RH hu
end
end Go.Proofs.Yteodlcpcgfjdcaa.E
namespace Go.Proofs.Yteodlcpcgfjdcaa.E
open Go Go.RowKit
section
variable {c : Cfg}
theorem fn_of_base (hH : c.H0.length = c.L) (hsc : ∀ (i : Nat) (B : Blk), c.H0[i]? = some (some B) → unders c.L B.cells = true) (hG : ∀ p ∈ c.G, p.2 < c.L) {f : FuncId} {args : List V} {v : V} {h' : Heap}
    (hua : unders c.L args = true) (hv : v.under c.L = true) (hm : Meets c c.L f args c.H0 v h') : Ret c f args v := by
  intro h lim hL ρ w RH hu
  have R0 : RelH c ρ c.H0 w := by
    have hget : ∀ (i : Nat), i < c.L → h[i]? = c.H0[i]? := RH.base
    have hlt : ∀ {i : Nat} {x : Option Blk}, c.H0[i]? = some x → i < c.L := fun {i x} hi => by
      rcases Nat.lt_or_ge i c.H0.length with k | k
      · omega
      · rw [List.getElem?_eq_none k] at hi; cases hi
    refine ⟨fun i B hi => RH.cell i B (by rw [hget i (hlt hi)]; exact hi), fun i hi => RH.lt i (by have := RH.big; omega), fun i j h1 h2 h3 h4 => by omega, fun i B hi => by rw [hH]; exact hsc i B hi, fun p hp => ⟨(RH.glob p hp).1, by rw [hH]; exact hG p hp⟩, by omega, fun _ _ => rfl⟩
  refine (hm ρ w R0 (by rw [hH]; exact hua)).mono fun e w' he => ?_
  obtain ⟨ρ', h1, h2, h3, h4, h5⟩ := he
  have hblk : ∀ k, k < w.heap.size → w'.heap[k]? = w.heap[k]? := fun k hk => h4.blk k hk fun i h6 h7 => by omega
  have e1 : v.conc ρ' = v.conc ρ := V.conc_agree (n := c.L) (fun i hi => h4.ren i (by omega)) v hv
  refine ⟨ρ, rfl, by rw [← e1]; exact h2, ⟨fun i B hi => ?_, fun i hi => Nat.lt_of_lt_of_le (RH.lt i hi) h4.size, RH.inj, RH.sco, RH.glob, RH.big, RH.base⟩, ⟨h4.os, h4.tape, h4.output, h4.size, fun k hk _ => hblk k hk, fun _ _ => rfl, Nat.le_refl _, fun i h6 h7 => by omega⟩, V.under_mono RH.big v hv⟩
  obtain ⟨fr, k1, k2⟩ := RH.cell i B hi
  refine ⟨fr, ?_, k2⟩
  rw [hblk _ (RH.lt i ?_), k1]
  rcases Nat.lt_or_ge i h.length with k | k
  · exact k
  · rw [List.getElem?_eq_none k] at hi; cases hi
theorem fn_of (hm : c.P.follows .mixedOrders = true) (hfn : ∀ f, c.fns f = true → Callable c.P f) (hH : c.H0.length = c.L) (hsc : ∀ (i : Nat) (B : Blk), c.H0[i]? = some (some B) → unders c.L B.cells = true) (hG : ∀ p ∈ c.G, p.2 < c.L)
    {n : Nat} {f : FuncId} {args : List V} {ans : List Ans} {v : V} {cons : List Prop} (he : (evFunc c n f args c.H0 c.L ans).map (fun o => (o.v, o.cons)) = some (v, cons)) (hua : unders c.L args = true) (hv : v.under c.L = true) (hc : Paid cons) : Ret c f args v := by
  rw [Option.map_eq_some_iff] at he
  obtain ⟨o, h1, h2⟩ := he
  obtain ⟨v', h', ans', cons'⟩ := o
  simp only [Prod.mk.injEq] at h2
  obtain ⟨rfl, rfl⟩ := h2
  exact fn_of_base hH hsc hG hua hv (meets_of hm hfn (Nat.le_refl _) h1 hc)
theorem fn_of_calls {f : FuncId} {args : List Value} {x : Value} (h : ∀ w : World, Calls c.P f args.toArray w fun e w' => e = .returned x ∧ Below w.heap.size w w') : Ret c f (args.map .raw) (.raw x) := by
  intro h0 lim hL ρ w RH hu
  rw [concs_raw]
  refine (h w).mono fun e w' he => ?_
  obtain ⟨rfl, hb⟩ := he
  refine ⟨ρ, rfl, rfl, ⟨fun i B hi => ?_, fun i hi => Nat.lt_of_lt_of_le (RH.lt i hi) hb.size, RH.inj, RH.sco, RH.glob, RH.big, RH.base⟩, ⟨hb.os, hb.tape, hb.output, hb.size, fun k hk _ => hb.block k hk, fun _ _ => rfl, Nat.le_refl _, fun i h6 h7 => by omega⟩, rfl⟩
  obtain ⟨fr, k1, k2⟩ := RH.cell i B hi
  refine ⟨fr, ?_, k2⟩
  rw [hb.block _ (RH.lt i ?_), k1]
  rcases Nat.lt_or_ge i h0.length with k | k
  · exact k
  · rw [List.getElem?_eq_none k] at hi; cases hi
theorem calls_of_fn (hL : c.L = 0) (hG : c.G = []) {f : FuncId} {args : List Value} {x : Value} (h : Ret c f (args.map .raw) (.raw x)) (w : World) : Calls c.P f args.toArray w fun e w' => e = .returned x ∧ Below w.heap.size w w' := by
  have R0 : RelH c ⟨fun _ => 0, fun _ => undef⟩ [] w := ⟨fun i B hi => by simp at hi, fun i hi => by simp at hi, fun i j _ h2 => by simp at h2, fun i B hi => by simp at hi, fun p hp => (by rw [hG] at hp; cases hp), by simp [hL], fun i hi => by omega⟩
  have := h [] 0 (by omega) _ w R0 (unders_raw _ _)
  rw [concs_raw] at this
  refine this.mono fun e w' he => ?_
  obtain ⟨ρ', _, rfl, _, F, _⟩ := he
  exact ⟨rfl, F.os, F.tape, F.output, F.size, fun k hk => F.blk k hk fun i _ h2 => by simp at h2⟩
theorem inR_i64 {n : Int} (h1 : -9223372036854775808 ≤ n) (h2 : n ≤ 9223372036854775807) : inR .i64 n := IntWalk.i64_in n (by omega)
end
end Go.Proofs.Yteodlcpcgfjdcaa.E
namespace Go.Proofs.Yteodlcpcgfjdcaa.E
open Go Go.RowKit
section
variable {c : Cfg} {lim : Nat} {x : Code}
def Rounds (c : Cfg) (lim : Nat) (x : Code) (n : Nat) (t : List V) (h : Heap) (e : Ex) (t' : List V) (h' : Heap) : Prop :=
  ∀ ρ a w, RelT ρ h.length t a → RelH c ρ h w → ∀ Q : Exit → Act → World → Prop,
    (∀ ρ' a' w', a'.defers = a.defers → RelT ρ' h'.length t' a' → RelH c ρ' h' w' → Fr lim ρ h w ρ' h' w' → Q e.to a' w') → Code.rounds c.P x Q n a w
theorem rounds_done {t t' : List V} {h h' : Heap} {e : Ex} (hr : Runs c lim x t h e t' h') (he : e ≠ .normal) : Rounds c lim x 1 t h e t' h' := by
  intro ρ a w RT RH Q hQ
  rw [rounds_succ]
  refine hr.go RT RH fun ρ' a' w' d RT' RH' F => ?_
  have := hQ ρ' a' w' d RT' RH' F
  cases e with
  | normal => exact absurd rfl he
  | exit i => exact this
  | ret => exact this
theorem rounds_more {t t1 t' : List V} {h h1 h' : Heap} {e : Ex} {n : Nat} (hr : Runs c lim x t h .normal t1 h1) (hs : Rounds c lim x n t1 h1 e t' h') : Rounds c lim x (n + 1) t h e t' h' := by
  intro ρ a w RT RH Q hQ
  rw [rounds_succ]
  refine hr.go RT RH fun ρ1 a1 w1 d1 RT1 RH1 F1 => ?_
  exact hs ρ1 a1 w1 RT1 RH1 Q fun ρ' a' w' d RT' RH' F => hQ ρ' a' w' (d.trans d1) RT' RH' (F1.trans F)
theorem runs_loop {t t' : List V} {h h' : Heap} {e : Ex} {n : Nat} (hr : Rounds c lim x n t h e t' h') : Runs c lim (.loop x) t h e t' h' := by
  intro ρ a w RT RH
  exact wp_loop_rounds n (hr ρ a w RT RH _ fun ρ' a' w' d RT' RH' F => ⟨rfl, ρ', d, RT', RH', F⟩)
def forgetAt (ds : List Nat) (t : List V) : List V := ds.foldl (fun t i => t.set i (.any i)) t
def anyOwn : Nat → List V → Bool
  | _, [] => true
  | i, .any j :: l => decide (j = i) && anyOwn (i + 1) l
  | i, _ :: l => anyOwn (i + 1) l
theorem anyOwn_get : ∀ (l : List V) (k i j : Nat), anyOwn k l = true → l[i]? = some (.any j) → j = k + i
  | [], k, i, j, h, hg => by simp at hg
  | v :: l, k, 0, j, h, hg => by
    simp only [List.getElem?_cons_zero, Option.some.injEq] at hg
    subst hg
    simp only [anyOwn, Bool.and_eq_true, decide_eq_true_eq] at h
    omega
  | v :: l, k, i + 1, j, h, hg => by
    simp only [List.getElem?_cons_succ] at hg
    have h' : anyOwn (k + 1) l = true := by
      cases v with
      | any q => simp only [anyOwn, Bool.and_eq_true] at h; exact h.2
      | _ => simpa only [anyOwn] using h
    have := anyOwn_get l (k + 1) i j h' hg
    omega
theorem forgetAt_get : ∀ (ds : List Nat) (t : List V) (i : Nat), (forgetAt ds t)[i]? = t[i]? ∨ ((forgetAt ds t)[i]? = some (.any i) ∧ i < t.length)
  | [], t, i => Or.inl rfl
  | d :: ds, t, i => by
    show (forgetAt ds (t.set d (.any d)))[i]? = t[i]? ∨ ((forgetAt ds (t.set d (.any d)))[i]? = some (.any i) ∧ i < t.length)
    rcases forgetAt_get ds (t.set d (.any d)) i with h | h
    · rw [h]
      rw [List.getElem?_set]
      by_cases hd : d = i
      · subst hd
        rw [if_pos rfl]
        by_cases hl : d < t.length
        · right; rw [if_pos hl]; exact ⟨rfl, hl⟩
        · left; rw [if_neg hl, List.getElem?_eq_none (by omega)]
      · left; rw [if_neg hd]
    · right; rw [List.length_set] at h; exact h
theorem relT_forget {ρ : Ren} {n m : Nat} {t : List V} {a : Act} (RT : RelT ρ n t a) (ds : List Nat) (ho : anyOwn 0 (forgetAt ds t) = true) (hs : (forgetAt ds t).all (·.slotOk m) = true) : RelT ⟨ρ.blk, fun i => a.tmps.getD i undef⟩ m (forgetAt ds t) a := by
  refine ⟨?_, fun x hx => List.all_eq_true.1 hs x hx⟩
  apply Array.toList_inj.1
  apply List.ext_getElem?
  intro i
  rw [concs_get]
  have h0 : a.tmps.toList[i]? = (t[i]?).map (·.conc ρ) := by rw [RT.tmps]; exact concs_get ρ t i
  rw [h0]
  rcases forgetAt_get ds t i with h | ⟨h, hl⟩
  · rw [h]
    cases hv : t[i]? with
    | none => rfl
    | some v =>
      simp only [Option.map_some, Option.some.injEq]
      cases v with
      | any j =>
        have hj := anyOwn_get _ 0 i j ho (h.trans hv)
        simp only [Nat.zero_add] at hj
        subst hj
        rw [hv] at h0
        simp only [Option.map_some] at h0
        simp only [V.conc, Array.getD_eq_getD_getElem?]
        rw [← Array.getElem?_toList, h0]
        rfl
      | _ => exact (V.conc_agree (n := n) (ρ := ρ) (ρ' := ⟨ρ.blk, fun i => a.tmps.getD i undef⟩) (fun _ _ => rfl) _ (RT.sco _ (List.mem_of_getElem? hv))).symm
  · rw [h]
    have : ∃ v, t[i]? = some v := ⟨_, List.getElem?_eq_getElem hl⟩
    obtain ⟨v, hv⟩ := this
    rw [hv] at h0 ⊢
    simp only [Option.map_some, V.conc, Array.getD_eq_getD_getElem?]
    simp only [Option.map_some] at h0
    rw [← Array.getElem?_toList, h0]
    rfl
theorem relH_unk {ρ : Ren} {h : Heap} {w : World} (RH : RelH c ρ h w) (u : Nat → Value) : RelH c ⟨ρ.blk, u⟩ h w :=
  ⟨fun i B hi => by
    obtain ⟨fr, h1, h2⟩ := RH.cell i B hi
    exact ⟨fr, by rw [concs_agree (n := h.length) (ρ := ρ) (ρ' := ⟨ρ.blk, u⟩) (fun _ _ => rfl) _ (RH.sco i B hi)]; exact h1, h2⟩, RH.lt, RH.inj, RH.sco, RH.glob, RH.big, RH.base⟩
theorem runs_enter {code : Code} {t T t' : List V} {h h' : Heap} {e : Ex} (ds : List Nat) (hT : forgetAt ds t = T) (ho : anyOwn 0 T = true) (hs : T.all (·.slotOk h.length) = true) (hr : Runs c lim code T h e t' h') : Runs c lim code t h e t' h' := by
  subst hT
  intro ρ a w RT RH
  refine wp_mono (hr _ a w (relT_forget RT ds ho hs) (relH_unk RH _)) fun x a' w' ⟨h1, ρ', h2, h3, h4, h5⟩ => ⟨h1, ρ', h2, h3, h4, ?_⟩
  exact ⟨h5.os, h5.tape, h5.output, h5.size, h5.blk, h5.ren, h5.len, h5.fresh⟩
theorem runs_drop {code : Code} {t t1 : List V} {h h1 : Heap} {e : Ex} (hr : Runs c lim code t h e t1 h1) (ds : List Nat) (hm : h.length ≤ h1.length)
    (hc : (((h1.take h.length).drop c.L).all fun b => match b with
      | some B => unders h.length B.cells
      | none => true) = true) (ho : anyOwn 0 (forgetAt ds t1) = true) (hs : (forgetAt ds t1).all (·.slotOk h.length) = true) : Runs c lim code t h e (forgetAt ds t1) (h1.take h.length) := by
  intro ρ a w RT RH
  refine wp_mono (hr ρ a w RT RH) fun x a' w' ⟨e1, ρ', e2, RT', RH', F⟩ => ⟨e1, ⟨ρ'.blk, fun i => a'.tmps.getD i undef⟩, e2, ?_, ?_, ?_⟩
  · have hl : (h1.take h.length).length = h.length := by rw [List.length_take]; omega
    rw [hl]
    exact relT_forget RT' ds ho hs
  · have hl : (h1.take h.length).length = h.length := by rw [List.length_take]; omega
    have hg : ∀ {i : Nat} {b : Option Blk}, (h1.take h.length)[i]? = some b → h1[i]? = some b ∧ i < h.length := fun {i b} hi => by
      have hil : i < (h1.take h.length).length := by
        rcases Nat.lt_or_ge i (h1.take h.length).length with k | k
        · exact k
        · rw [List.getElem?_eq_none k] at hi; cases hi
      rw [List.getElem?_take, if_pos (by omega)] at hi
      exact ⟨hi, by omega⟩
    refine relH_unk ⟨fun i B hi => RH'.cell i B (hg hi).1, fun i hi => RH'.lt i (by omega), fun i j k1 k2 k3 k4 => RH'.inj i j k1 (by omega) (by omega) k4, fun i B hi => ?_, fun p hp => ⟨(RH'.glob p hp).1, by rw [hl]; exact (RH.glob p hp).2⟩, by rw [hl]; exact RH.big, fun i hi => ?_⟩ _
    · rw [hl]
      rcases Nat.lt_or_ge i c.L with hlt | hge
      · have e1 := RH'.base i hlt
        have e2 := RH.base i hlt
        rw [(hg hi).1] at e1
        exact RH.sco i B (e2.trans e1.symm)
      · have hi' : ((h1.take h.length).drop c.L)[i - c.L]? = some (some B) := by
          rw [List.getElem?_drop]
          have : c.L + (i - c.L) = i := by omega
          rw [this]
          exact hi
        have := List.all_eq_true.1 hc _ (List.mem_of_getElem? hi')
        exact this
    · rw [List.getElem?_take, if_pos (by have := RH.big; omega)]
      exact RH'.base i hi
  · exact ⟨F.os, F.tape, F.output, F.size, F.blk, F.ren, by rw [List.length_take]; omega, fun i k1 k2 => F.fresh i k1 (by rw [List.length_take] at k2; omega)⟩
def loopsIn : Code → List Code
  | .loop x => x :: loopsIn x
  | .seq x y => loopsIn x ++ loopsIn y
  | .cond _ x y => loopsIn x ++ loopsIn y
  | .block _ x => loopsIn x
  | .scope x => loopsIn x
  | _ => []
def loopOf (P : Program) (f i : Nat) : Code := match P.funcs[f]? with
  | some fn => match fn.body with
    | some b => (loopsIn b).getD i .skip
    | none => .skip
  | none => .skip
theorem body_of (hmx : c.P.follows .mixedOrders = true) (hfn : ∀ f, c.fns f = true → Callable c.P f) (hL : c.L ≤ lim) {n : Nat} {code : Code} {T T' : List V} {H H' : Heap} {ans : List Ans} {e : Ex} {cons : List Prop} (ds : List Nat)
    (he : (evCode c (evFunc c n) lim code T H ans).map (fun r => (r.e, forgetAt ds r.t, r.h.take H.length, decide (H.length ≤ r.h.length), r.cons)) = some (e, T', H', true, cons))
    (hc : ((H'.drop c.L).all fun b => match b with
      | some B => unders H.length B.cells
      | none => true) = true) (ho : anyOwn 0 T' = true) (hs : T'.all (·.slotOk H.length) = true) (hp : Paid cons) : Runs c lim code T H e T' H' := by
  rw [Option.map_eq_some_iff] at he
  obtain ⟨r, h1, h2⟩ := he
  simp only [Prod.mk.injEq, decide_eq_true_eq] at h2
  obtain ⟨rfl, rfl, rfl, hm, rfl⟩ := h2
  exact runs_drop (evCode_sound hmx (evFunc_sound hmx hfn n) hfn hL _ _ _ _ _ h1 hp.all) ds hm hc ho hs
end
end Go.Proofs.Yteodlcpcgfjdcaa.E
end
section
namespace Go.Proofs.Yteodlcpcgfjdcaa
open Go Go.RowKit Go.Proofs.Yteodlcpcgfjdcaa.E
noncomputable def cfg : Cfg := ⟨Try.prog, [], 0, [], true, fun f => (Try.prog.funcs[f]?).any fun fn => !fn.body.isNone⟩
theorem cfg_mixed : cfg.P.follows .mixedOrders = true := by kernel_rfl
theorem funcs_plain : ((Try.prog.funcs.toList.all fun fn => !(fn.name == "runtime.NumGoroutine"))) = true := by kernel_rfl
set_option maxRecDepth 100000 in
theorem cfg_call : ∀ f, cfg.fns f = true → Callable cfg.P f := fun f hf => by
  cases hg : Try.prog.funcs[f]? with
  | none =>
    have hf' : ((Try.prog.funcs[f]?).any fun fn => !fn.body.isNone) = true := hf
    rw [hg] at hf'
    cases hf'
  | some fn =>
    have hf' : ((Try.prog.funcs[f]?).any fun fn => !fn.body.isNone) = true := hf
    rw [hg] at hf'
    have h := List.all_eq_true.1 funcs_plain fn (Array.mem_toList_iff.2 (Array.mem_of_getElem? hg))
    exact ⟨fn, hg, by simpa using h, by simpa using hf'⟩
theorem cfg_base : cfg.H0.length = cfg.L ∧ (∀ (i : Nat) (B : Blk), cfg.H0[i]? = some (some B) → unders cfg.L B.cells = true) ∧ ∀ p ∈ cfg.G, p.2 < cfg.L :=
  ⟨rfl, fun i B h => by simp [cfg] at h, fun p h => by simp [cfg] at h⟩
noncomputable def cfgW : Cfg := ⟨Try.prog, [], 0, [], false, fun f => (Try.prog.funcs[f]?).any fun fn => !fn.body.isNone⟩
theorem cfgW_mixed : cfgW.P.follows .mixedOrders = true := cfg_mixed
theorem cfgW_call : ∀ f, cfgW.fns f = true → Callable cfgW.P f := cfg_call
theorem cfgW_base : cfgW.H0.length = cfgW.L ∧ (∀ (i : Nat) (B : Blk), cfgW.H0[i]? = some (some B) → unders cfgW.L B.cells = true) ∧ ∀ p ∈ cfgW.G, p.2 < cfgW.L :=
  ⟨rfl, fun i B h => by simp [cfgW] at h, fun p h => by simp [cfgW] at h⟩
theorem relH_cfg {ρ : Ren} {h : Heap} {w : World} : RelH cfg ρ h w ↔ RelH cfgW ρ h w :=
  ⟨fun r => ⟨r.cell, r.lt, r.inj, r.sco, r.glob, r.big, r.base⟩, fun r => ⟨r.cell, r.lt, r.inj, r.sco, r.glob, r.big, r.base⟩⟩
theorem ret_round {f : FuncId} {args : List V} {v : V} (h : Ret cfgW f args v) : Ret cfg f args v := fun H lim hL ρ w R hu =>
  (h H lim hL ρ w (relH_cfg.1 R) hu).mono fun e w' ⟨ρ', h1, h2, h3, h4, h5⟩ => ⟨ρ', h1, h2, relH_cfg.2 h3, h4, h5⟩
theorem ret_bare {f : FuncId} {args : List V} {v : V} (h : Ret cfg f args v) : Ret cfgW f args v := fun H lim hL ρ w R hu =>
  (h H lim hL ρ w (relH_cfg.2 R) hu).mono fun e w' ⟨ρ', h1, h2, h3, h4, h5⟩ => ⟨ρ', h1, h2, relH_cfg.1 h3, h4, h5⟩
end Go.Proofs.Yteodlcpcgfjdcaa
end
section
namespace Go.Proofs.Yteodlcpcgfjdcaa
open Go Go.RowKit
theorem up1 {f : FuncId} {a0 x : Value} (h : E.Ret cfg f [.raw a0] (.raw x)) : E2.Ret cfx f [.raw a0] (.raw x) :=
  E2.fn_of_calls (c := cfx) (args := [a0]) fun w => E.calls_of_fn (c := cfg) (args := [a0]) rfl rfl h w
theorem up2 {f : FuncId} {a0 a1 x : Value} (h : E.Ret cfg f [.raw a0, .raw a1] (.raw x)) : E2.Ret cfx f [.raw a0, .raw a1] (.raw x) :=
  E2.fn_of_calls (c := cfx) (args := [a0, a1]) fun w => E.calls_of_fn (c := cfg) (args := [a0, a1]) rfl rfl h w
theorem up3 {f : FuncId} {a0 a1 a2 x : Value} (h : E.Ret cfg f [.raw a0, .raw a1, .raw a2] (.raw x)) : E2.Ret cfx f [.raw a0, .raw a1, .raw a2] (.raw x) :=
  E2.fn_of_calls (c := cfx) (args := [a0, a1, a2]) fun w => E.calls_of_fn (c := cfg) (args := [a0, a1, a2]) rfl rfl h w
theorem up5 {f : FuncId} {a0 a1 a2 a3 a4 x : Value} (h : E.Ret cfg f [.raw a0, .raw a1, .raw a2, .raw a3, .raw a4] (.raw x)) : E2.Ret cfx f [.raw a0, .raw a1, .raw a2, .raw a3, .raw a4] (.raw x) :=
  E2.fn_of_calls (c := cfx) (args := [a0, a1, a2, a3, a4]) fun w => E.calls_of_fn (c := cfg) (args := [a0, a1, a2, a3, a4]) rfl rfl h w
end Go.Proofs.Yteodlcpcgfjdcaa
end
section
namespace Go.Proofs.Yteodlcpcgfjdcaa.M
def btw (n l h : Int) : Bool := decide (l ≤ n) && decide (n ≤ h)
theorem btw_iff {n l h : Int} : btw n l h = true ↔ (l ≤ n ∧ n ≤ h) := by simp [btw]
def ballB (m r : Int) : Bool := btw m 400 500 && btw r 1000 4096
def momB (x y : Int) : Bool := btw x (-16777216) 16777216 && btw y (-16777216) 16777216
def restB (x y m : Int) : Bool := btw x (-(32 * m)) (32 * m - 1) && btw y (-(32 * m)) (32 * m - 1)
def placeB (x y : Int) : Bool := btw x (-4194304) 4194304 && btw y (-4194304) 4194304
def motB (m r a b u v p q : Int) : Bool := ballB m r && placeB a b && momB u v && restB p q m
def bncB (r d : Int) : Bool := btw r 0 950 && btw d 0 300
def err (b : Bool) : Int := if b then 0 else 2
@[simp] theorem err_true : err true = 0 := rfl
@[simp] theorem err_false : err false = 2 := rfl
theorem ballB_lo {m r : Int} (h : err (ballB m r) = 0) : 400 ≤ m := by
  unfold err ballB btw at h
  simp at h
  omega
theorem ballB_hi {m r : Int} (h : err (ballB m r) = 0) : m ≤ 500 := by
  unfold err ballB btw at h
  simp at h
  omega
theorem err_eq {b : Bool} : err b = 0 ↔ b = true := by cases b <;> simp
end Go.Proofs.Yteodlcpcgfjdcaa.M
end
section
namespace Go.Proofs.Yteodlcpcgfjdcaa.M
def tooB (b ux uy x y : Int) : Bool := decide (2 * (ux * x + uy * y) < b * (x * x + y * y))
def hv : Nat → Int → Int → Int → Int → Int → Int × Int
  | 0, b, ux, uy, x, y => (x, y)
  | n + 1, b, ux, uy, x, y => if tooB b ux uy x y then hv n b ux uy (x.tdiv 2) (y.tdiv 2) else (x, y)
def hvx (b ux uy x y : Int) : Int := (hv (x.natAbs + y.natAbs) b ux uy x y).1
def hvy (b ux uy x y : Int) : Int := (hv (x.natAbs + y.natAbs) b ux uy x y).2
def hh (ux uy wx wy sq : Int) : Int := (ux * wx + uy * wy).tdiv sq
def kk (ux uy wx wy sq : Int) : Int := (wx * uy - wy * ux).tdiv sq
def k0x (ux uy wx wy sq b r d : Int) : Int := ((1000 + r) * hh ux uy wx wy sq * wx - d * kk ux uy wx wy sq * wy).tdiv (1000 * b)
def k0y (ux uy wx wy sq b r d : Int) : Int := ((1000 + r) * hh ux uy wx wy sq * wy + d * kk ux uy wx wy sq * wx).tdiv (1000 * b)
def kx (ux uy wx wy sq b r d : Int) : Int := hvx b ux uy (k0x ux uy wx wy sq b r d) (k0y ux uy wx wy sq b r d)
def ky (ux uy wx wy sq b r d : Int) : Int := hvy b ux uy (k0x ux uy wx wy sq b r d) (k0y ux uy wx wy sq b r d)
theorem half_abs (x : Int) : (x.tdiv 2).natAbs ≤ x.natAbs ∧ (x ≠ 0 → (x.tdiv 2).natAbs < x.natAbs) := by
  have h : (x.tdiv 2).natAbs = x.natAbs / 2 := by rw [Int.natAbs_tdiv]; rfl
  rw [h]
  omega
theorem tooB_zero (b ux uy : Int) : tooB b ux uy 0 0 = false := by simp [tooB]
theorem tooB_ne {b ux uy x y : Int} (h : tooB b ux uy x y = true) : x ≠ 0 ∨ y ≠ 0 := by
  by_cases hx : x = 0
  · by_cases hy : y = 0
    · subst hx; subst hy; rw [tooB_zero] at h; cases h
    · exact Or.inr hy
  · exact Or.inl hx
theorem tooB_lt {b ux uy x y : Int} (h : tooB b ux uy x y = true) : (x.tdiv 2).natAbs + (y.tdiv 2).natAbs < x.natAbs + y.natAbs := by
  have h1 := half_abs x
  have h2 := half_abs y
  rcases tooB_ne h with h3 | h3
  · have := h1.2 h3; omega
  · have := h2.2 h3; omega
theorem hv_fuel (b ux uy : Int) : ∀ (n m : Nat) (x y : Int), x.natAbs + y.natAbs ≤ n → x.natAbs + y.natAbs ≤ m → hv n b ux uy x y = hv m b ux uy x y
  | 0, 0, x, y, _, _ => rfl
  | 0, m + 1, x, y, h, _ => by
    have hx : x = 0 := by omega
    have hy : y = 0 := by omega
    subst hx; subst hy
    simp [hv, tooB_zero]
  | n + 1, 0, x, y, _, h => by
    have hx : x = 0 := by omega
    have hy : y = 0 := by omega
    subst hx; subst hy
    simp [hv, tooB_zero]
  | n + 1, m + 1, x, y, h1, h2 => by
    simp only [hv]
    cases ht : tooB b ux uy x y with
    | false => simp
    | true =>
      have := tooB_lt ht
      simp only [if_true]
      exact hv_fuel b ux uy n m _ _ (by omega) (by omega)
theorem hv_step {b ux uy x y : Int} (h : tooB b ux uy x y = true) : hvx b ux uy x y = hvx b ux uy (x.tdiv 2) (y.tdiv 2) ∧ hvy b ux uy x y = hvy b ux uy (x.tdiv 2) (y.tdiv 2) := by
  have hlt := tooB_lt h
  have : hv (x.natAbs + y.natAbs) b ux uy x y = hv ((x.tdiv 2).natAbs + (y.tdiv 2).natAbs) b ux uy (x.tdiv 2) (y.tdiv 2) := by
    rw [hv_fuel b ux uy (x.natAbs + y.natAbs) (((x.tdiv 2).natAbs + (y.tdiv 2).natAbs) + (x.natAbs + y.natAbs) + 1) x y (by omega) (by omega)]
    simp only [hv, h, if_true]
    exact hv_fuel b ux uy _ _ _ _ (by omega) (by omega)
  exact ⟨congrArg Prod.fst this, congrArg Prod.snd this⟩
theorem hv_stop {b ux uy x y : Int} (h : tooB b ux uy x y = false) : hvx b ux uy x y = x ∧ hvy b ux uy x y = y := by
  unfold hvx hvy
  cases hn : x.natAbs + y.natAbs with
  | zero => simp [hv]
  | succ n => simp [hv, h]
def Within (x X : Int) : Prop := (0 ≤ X → 0 ≤ x ∧ x ≤ X) ∧ (X ≤ 0 → X ≤ x ∧ x ≤ 0)
theorem within_half (x : Int) : Within (x.tdiv 2) x := by
  constructor
  · intro h; rw [Int.tdiv_eq_ediv_of_nonneg h]; omega
  · intro h
    have : x.tdiv 2 = -((-x) / 2) := by rw [← Int.tdiv_eq_ediv_of_nonneg (by omega), Int.neg_tdiv]; omega
    omega
theorem Within.trans {x y z : Int} (h : Within x y) (k : Within y z) : Within x z := by
  unfold Within at *
  constructor
  · intro hz; have := k.1 hz; have := h.1 (by omega); omega
  · intro hz; have := k.2 hz; have := h.2 (by omega); omega
theorem Within.refl (x : Int) : Within x x := ⟨fun h => ⟨h, Int.le_refl _⟩, fun h => ⟨Int.le_refl _, h⟩⟩
theorem hv_within (b ux uy : Int) : ∀ (n : Nat) (x y : Int), Within (hv n b ux uy x y).1 x ∧ Within (hv n b ux uy x y).2 y
  | 0, x, y => ⟨Within.refl _, Within.refl _⟩
  | n + 1, x, y => by
    simp only [hv]
    cases ht : tooB b ux uy x y with
    | false => simp only [Bool.false_eq_true, if_false]; exact ⟨Within.refl _, Within.refl _⟩
    | true =>
      simp only [if_true]
      obtain ⟨h1, h2⟩ := hv_within b ux uy n (x.tdiv 2) (y.tdiv 2)
      exact ⟨h1.trans (within_half x), h2.trans (within_half y)⟩
theorem kx_within (ux uy wx wy sq b r d : Int) : Within (kx ux uy wx wy sq b r d) (k0x ux uy wx wy sq b r d) ∧ Within (ky ux uy wx wy sq b r d) (k0y ux uy wx wy sq b r d) := hv_within b ux uy _ _ _
end Go.Proofs.Yteodlcpcgfjdcaa.M
end
section
namespace Go.Proofs.Yteodlcpcgfjdcaa.M
def whole (n d : Int) : Int := (2 * n + d) / (2 * d)
def rest (n d : Int) : Int := n - whole n d * d
theorem rest_lo (n d : Int) (h : 0 < d) : -d ≤ 2 * rest n d := by
  unfold rest whole
  have h1 := Int.mul_ediv_add_emod (2 * n + d) (2 * d)
  have h2 := Int.emod_nonneg (2 * n + d) (show (2 * d : Int) ≠ 0 by omega)
  have e : 2 * d * ((2 * n + d) / (2 * d)) = 2 * ((2 * n + d) / (2 * d) * d) := by rw [Int.mul_assoc, Int.mul_comm d]
  omega
theorem rest_hi (n d : Int) (h : 0 < d) : 2 * rest n d < d := by
  unfold rest whole
  have h1 := Int.mul_ediv_add_emod (2 * n + d) (2 * d)
  have h3 := Int.emod_lt_of_pos (2 * n + d) (show (0:Int) < 2 * d by omega)
  have e : 2 * d * ((2 * n + d) / (2 * d)) = 2 * ((2 * n + d) / (2 * d) * d) := by rw [Int.mul_assoc, Int.mul_comm d]
  omega
theorem whole_rest (n d : Int) : whole n d * d + rest n d = n := by unfold rest; omega
theorem whole_of (n d w : Int) (h : 0 < d) (h1 : -d ≤ 2 * (n - w * d)) (h2 : 2 * (n - w * d) < d) : w = whole n d := by
  unfold whole
  have : (2 * n + d) = 2 * (n - w * d) + d + 2 * d * w := by rw [Int.mul_sub, Int.mul_assoc 2 d w, Int.mul_comm d w]; omega
  rw [this, Int.add_mul_ediv_left _ _ (by omega), Int.ediv_eq_zero_of_lt (by omega) (by omega)]; omega
theorem rest_of (n d w r : Int) (h : 0 < d) (e : w * d + r = n) (h1 : -d ≤ 2 * r) (h2 : 2 * r < d) : w = whole n d ∧ r = rest n d := by
  have hr : r = n - w * d := by omega
  have hw := whole_of n d w h (by omega) (by omega)
  exact ⟨hw, by unfold rest; rw [← hw]; exact hr⟩
theorem part_up (n d : Int) (h : 0 < d) (h2 : d ≤ 2 * n.tmod d) : n.tdiv d + 1 = whole n d ∧ n.tmod d - d = rest n d := by
  have e := Int.mul_tdiv_add_tmod n d
  have hl := Int.tmod_lt_of_pos n h
  have e2 : (n.tdiv d + 1) * d = d * n.tdiv d + d := by rw [Int.add_mul, Int.mul_comm]; omega
  exact rest_of n d _ _ h (by omega) (by omega) (by omega)
theorem part_down (n d : Int) (h : 0 < d) (h2 : 2 * n.tmod d < -d) : n.tdiv d - 1 = whole n d ∧ n.tmod d + d = rest n d := by
  have e := Int.mul_tdiv_add_tmod n d
  have hl : -d < n.tmod d := by
    have h1 := Int.tmod_lt_of_pos (-n) h
    rw [Int.neg_tmod] at h1
    omega
  have e2 : (n.tdiv d - 1) * d = d * n.tdiv d - d := by rw [Int.sub_mul, Int.mul_comm]; omega
  exact rest_of n d _ _ h (by omega) (by omega) (by omega)
theorem part_mid (n d : Int) (h : 0 < d) (h1 : ¬ d ≤ 2 * n.tmod d) (h2 : ¬ 2 * n.tmod d < -d) : n.tdiv d = whole n d ∧ n.tmod d = rest n d := by
  have e := Int.mul_tdiv_add_tmod n d
  have e2 : (n.tdiv d) * d = d * n.tdiv d := by rw [Int.mul_comm]
  exact rest_of n d _ _ h (by omega) (by omega) (by omega)
theorem tdiv_bd (n d : Int) (h : 0 < d) (a b : Int) (ha : a ≤ 0) (hb : 0 ≤ b) (h1 : a ≤ n) (h2 : n ≤ b) : a ≤ n.tdiv d ∧ n.tdiv d ≤ b := by
  constructor
  · rcases Int.le_total 0 n with hn | hn
    · have := Int.tdiv_nonneg hn (Int.le_of_lt h); omega
    · have h3 : n.tdiv d = -((-n).tdiv d) := by rw [Int.neg_tdiv]; omega
      have := Int.tdiv_le_self (a := -n) d (by omega)
      omega
  · rcases Int.le_total 0 n with hn | hn
    · have := Int.tdiv_le_self (a := n) d hn; omega
    · have h3 : n.tdiv d = -((-n).tdiv d) := by rw [Int.neg_tdiv]; omega
      have := Int.tdiv_nonneg (a := -n) (by omega) (Int.le_of_lt h); omega
def fits (a : Int) : Bool := decide (-4194304 ≤ a ∧ a ≤ 4194304)
theorem fits_yes {a : Int} (h : -4194304 ≤ a ∧ a ≤ 4194304) : fits a = true := by unfold fits; simpa using h
theorem fits_no {a : Int} (h : ¬ (-4194304 ≤ a ∧ a ≤ 4194304)) : fits a = false := by unfold fits; simpa using h
def sq (x y u v : Int) : Int := (u - x) * (u - x) + (v - y) * (v - y)
theorem mul_bd (a b A B : Int) (h1 : -A ≤ a) (h2 : a ≤ A) (h3 : -B ≤ b) (h4 : b ≤ B) : -(A * B) ≤ a * b ∧ a * b ≤ A * B := by
  have e1 : 0 ≤ (A - a) * (B + b) := Int.mul_nonneg (by omega) (by omega)
  have e2 : 0 ≤ (A + a) * (B - b) := Int.mul_nonneg (by omega) (by omega)
  have e3 : 0 ≤ (A - a) * (B - b) := Int.mul_nonneg (by omega) (by omega)
  have e4 : 0 ≤ (A + a) * (B + b) := Int.mul_nonneg (by omega) (by omega)
  constructor <;> grind
theorem sq_nonneg (a : Int) : 0 ≤ a * a := by
  rcases Int.le_total 0 a with h | h
  · exact Int.mul_nonneg h h
  · have := Int.mul_nonneg (a := -a) (b := -a) (by omega) (by omega); grind
def okAll (ps : List (Int × Int)) : Bool := ps.all fun p => fits p.1 && fits p.2
def chk (ps : List (Int × Int)) : Int := if okAll ps then 0 else 2
theorem okAll_take_succ (ps : List (Int × Int)) (k : Nat) (h : k < ps.length) : okAll (ps.take (k + 1)) = (okAll (ps.take k) && (fits (ps.getD k (0, 0)).1 && fits (ps.getD k (0, 0)).2)) := by
  unfold okAll
  rw [List.take_succ_eq_append_getElem h, List.all_append]
  simp [List.getD, h]
theorem okAll_of_take (ps : List (Int × Int)) (k : Nat) (h : okAll (ps.take k) = false) : okAll ps = false := by
  unfold okAll at *
  rw [List.all_eq_false] at *
  obtain ⟨x, hx, hn⟩ := h
  exact ⟨x, List.mem_of_mem_take hx, hn⟩
def hi (z : Int) : Int := z / 18446744073709551616
def lo (z : Int) : Int := z % 18446744073709551616
def among (x l h : Int) : Bool := decide (l ≤ x ∧ x ≤ h)
def g0 (z : Int) : Int := z / 2147483648 / 2147483648 / 2147483648
def g1 (z : Int) : Int := z / 2147483648 / 2147483648 % 2147483648
def g2 (z : Int) : Int := z / 2147483648 % 2147483648
def g3 (z : Int) : Int := z % 2147483648
theorem mul_range (a b A B : Int) (h1 : 0 ≤ a) (h2 : a ≤ A) (h3 : 0 ≤ b) (h4 : b ≤ B) : 0 ≤ a * b ∧ a * b ≤ A * B :=
  ⟨Int.mul_nonneg h1 h3, Int.mul_le_mul h2 h4 h3 (by omega)⟩
def left (x y u v p q : Int) : Int := (u - x) * (q - y) - (v - y) * (p - x)
end Go.Proofs.Yteodlcpcgfjdcaa.M
end
section
namespace Go.Proofs.Yteodlcpcgfjdcaa.M
theorem of_sq {a b : Int} (hb : 0 ≤ b) (h : a * a ≤ b * b) : -b ≤ a ∧ a ≤ b := by
  constructor
  · rcases Int.lt_or_le a (-b) with h1 | h1
    · exfalso
      have : b * b < -a * -a := Int.mul_lt_mul' (by omega) (by omega) hb (by omega)
      have e : -a * -a = a * a := by grind
      omega
    · exact h1
  · rcases Int.lt_or_le b a with h1 | h1
    · exfalso
      have : b * b < a * a := Int.mul_lt_mul' (by omega) h1 hb (by omega)
      omega
    · exact h1
theorem tdiv_mul_sq (p q : Int) (hq : 0 < q) : (p.tdiv q * q) * (p.tdiv q * q) ≤ p * p := by
  rcases Int.lt_or_le p 0 with h | h
  · have e : p.tdiv q = -((-p) / q) := by rw [← Int.tdiv_eq_ediv_of_nonneg (by omega), Int.neg_tdiv]; omega
    have h1 : 0 ≤ (-p) / q := Int.ediv_nonneg (by omega) (by omega)
    have h2 : (-p) / q * q ≤ -p := Int.ediv_mul_le _ (by omega)
    have h3 : 0 ≤ (-p) / q * q := Int.mul_nonneg h1 (by omega)
    rw [e]
    have e2 : (-((-p) / q) * q) * (-((-p) / q) * q) = ((-p) / q * q) * ((-p) / q * q) := by grind
    have e3 : p * p = -p * -p := by grind
    rw [e2, e3]
    exact Int.mul_le_mul h2 h2 h3 (by omega)
  · have e : p.tdiv q = p / q := Int.tdiv_eq_ediv_of_nonneg h
    have h1 : 0 ≤ p / q := Int.ediv_nonneg h (by omega)
    have h2 : p / q * q ≤ p := Int.ediv_mul_le _ (by omega)
    have h3 : 0 ≤ p / q * q := Int.mul_nonneg h1 (by omega)
    rw [e]
    exact Int.mul_le_mul h2 h2 h3 h
theorem hk_le (ux uy wx wy sq : Int) (hs : sq = wx * wx + wy * wy) (hp : 0 < sq) :
    (hh ux uy wx wy sq * hh ux uy wx wy sq + kk ux uy wx wy sq * kk ux uy wx wy sq) * sq ≤ ux * ux + uy * uy := by
  have h1 := tdiv_mul_sq (ux * wx + uy * wy) sq hp
  have h2 := tdiv_mul_sq (wx * uy - wy * ux) sq hp
  unfold hh kk
  generalize (ux * wx + uy * wy).tdiv sq = h at *
  generalize (wx * uy - wy * ux).tdiv sq = k at *
  have e1 : (h * h + k * k) * sq * sq = (h * sq) * (h * sq) + (k * sq) * (k * sq) := by grind
  have e2 : (ux * ux + uy * uy) * sq = (ux * wx + uy * wy) * (ux * wx + uy * wy) + (wx * uy - wy * ux) * (wx * uy - wy * ux) := by subst hs; grind
  exact Int.le_of_mul_le_mul_right (by rw [e1, e2]; omega) hp
structure KickRng (ux uy wx wy sq b r d : Int) : Prop where
  h1 : -50000000000 ≤ hh ux uy wx wy sq * wx ∧ hh ux uy wx wy sq * wx ≤ 50000000000
  h2 : -50000000000 ≤ hh ux uy wx wy sq * wy ∧ hh ux uy wx wy sq * wy ≤ 50000000000
  h3 : -50000000000 ≤ kk ux uy wx wy sq * wx ∧ kk ux uy wx wy sq * wx ≤ 50000000000
  h4 : -50000000000 ≤ kk ux uy wx wy sq * wy ∧ kk ux uy wx wy sq * wy ≤ 50000000000
  h5 : -50000000000 ≤ hh ux uy wx wy sq ∧ hh ux uy wx wy sq ≤ 50000000000
  h6 : -50000000000 ≤ kk ux uy wx wy sq ∧ kk ux uy wx wy sq ≤ 50000000000
  x : -50331648 ≤ k0x ux uy wx wy sq b r d ∧ k0x ux uy wx wy sq b r d ≤ 50331648
  y : -50331648 ≤ k0y ux uy wx wy sq b r d ∧ k0y ux uy wx wy sq b r d ≤ 50331648
theorem sq_mono {a A : Int} (h1 : -A ≤ a) (h2 : a ≤ A) : a * a ≤ A * A := (mul_bd a a A A h1 h2 h1 h2).2
theorem kick_rng {ux uy wx wy sq b r d : Int} (hs : sq = wx * wx + wy * wy) (hp : 0 < sq) (b1 : 1 ≤ b) (b2 : b ≤ 1000) (r1 : 0 ≤ r) (r2 : r ≤ 950) (d1 : 0 ≤ d) (d2 : d ≤ 300)
    (x1 : -(b * 16777216) ≤ ux) (x2 : ux ≤ b * 16777216) (y1 : -(b * 16777216) ≤ uy) (y2 : uy ≤ b * 16777216) : KickRng ux uy wx wy sq b r d := by
  have q1 := sq_mono x1 x2
  have q2 := sq_mono y1 y2
  have q3 : b * b ≤ 1000 * 1000 := sq_mono (by omega) b2
  have e3 : (b * 16777216) * (b * 16777216) = b * b * 281474976710656 := by grind
  have key : ∀ (h k X Y : Int), (h * h + k * k) * sq ≤ ux * ux + uy * uy → X = ((1000 + r) * h * wx - d * k * wy).tdiv (1000 * b) → Y = ((1000 + r) * h * wy + d * k * wx).tdiv (1000 * b) →
      (-50000000000 ≤ h * wx ∧ h * wx ≤ 50000000000) ∧ (-50000000000 ≤ h * wy ∧ h * wy ≤ 50000000000) ∧ (-50000000000 ≤ k * wx ∧ k * wx ≤ 50000000000) ∧ (-50000000000 ≤ k * wy ∧ k * wy ≤ 50000000000) ∧ (-50000000000 ≤ h ∧ h ≤ 50000000000) ∧ (-50000000000 ≤ k ∧ k ≤ 50000000000) ∧ (-50331648 ≤ X ∧ X ≤ 50331648) ∧ (-50331648 ≤ Y ∧ Y ≤ 50331648) := by
    intro h k X Y hk dx dy
    have hU : (h * h + k * k) * sq ≤ b * b * 562949953421312 := by omega
    have n1 := sq_nonneg (h * wx)
    have n2 := sq_nonneg (h * wy)
    have n3 := sq_nonneg (k * wx)
    have n4 := sq_nonneg (k * wy)
    have hE : (h * h + k * k) * sq = (h * wx) * (h * wx) + (h * wy) * (h * wy) + (k * wx) * (k * wx) + (k * wy) * (k * wy) := by subst hs; grind
    have hB : (50000000000 : Int) * 50000000000 = 2500000000000000000000 := by decide
    have bd : ∀ z : Int, z * z ≤ b * b * 562949953421312 → -50000000000 ≤ z ∧ z ≤ 50000000000 := fun z hz => of_sq (by omega) (by omega)
    have nh := sq_nonneg h
    have nk := sq_nonneg k
    have hsq : (h * h + k * k) * 1 ≤ (h * h + k * k) * sq := Int.mul_le_mul_of_nonneg_left (by omega) (by omega)
    have hkp : 0 ≤ (h * h + k * k) * sq := Int.mul_nonneg (by omega) (by omega)
    -- the sum before it is divided
    have r3 : (1000 + r) * (1000 + r) ≤ 1950 * 1950 := sq_mono (by omega) (by omega)
    have r4 : d * d ≤ 1950 * 1950 := sq_mono (by omega) (by omega)
    have hA : ((1000 + r) * h * wx - d * k * wy) * ((1000 + r) * h * wx - d * k * wy) + ((1000 + r) * h * wy + d * k * wx) * ((1000 + r) * h * wy + d * k * wx) ≤ 3802500 * (b * b * 562949953421312) := by
      have e : ((1000 + r) * h * wx - d * k * wy) * ((1000 + r) * h * wx - d * k * wy) + ((1000 + r) * h * wy + d * k * wx) * ((1000 + r) * h * wy + d * k * wx) = (1000 + r) * (1000 + r) * (h * h * sq) + d * d * (k * k * sq) := by subst hs; grind
      have p1 : 0 ≤ h * h * sq := Int.mul_nonneg nh (by omega)
      have p2 : 0 ≤ k * k * sq := Int.mul_nonneg nk (by omega)
      have p3 := Int.mul_le_mul_of_nonneg_right r3 p1
      have p4 := Int.mul_le_mul_of_nonneg_right r4 p2
      have e5 : (h * h + k * k) * sq = h * h * sq + k * k * sq := by grind
      rw [e]
      omega
    have hd : 0 < 1000 * b := by omega
    have fin : ∀ (A Z : Int), Z = A.tdiv (1000 * b) → A * A ≤ 3802500 * (b * b * 562949953421312) → -50331648 ≤ Z ∧ Z ≤ 50331648 := fun A Z hZ hAA => by
      have t1 := tdiv_mul_sq A (1000 * b) hd
      rw [← hZ] at t1
      refine of_sq (by omega) ?_
      have bb : 0 < b * b := Int.mul_pos (by omega) (by omega)
      have e6 : (Z * (1000 * b)) * (Z * (1000 * b)) = (Z * Z * 1000000) * (b * b) := by grind
      have e7 : 3802500 * (b * b * 562949953421312) = 2140617197884538880000 * (b * b) := by grind
      rw [e6] at t1
      rw [e7] at hAA
      have := Int.le_of_mul_le_mul_right (Int.le_trans t1 hAA) bb
      omega
    have s1 := sq_nonneg ((1000 + r) * h * wx - d * k * wy)
    have s2 := sq_nonneg ((1000 + r) * h * wy + d * k * wx)
    exact ⟨bd _ (by omega), bd _ (by omega), bd _ (by omega), bd _ (by omega), bd _ (by omega), bd _ (by omega), fin _ _ dx (by omega), fin _ _ dy (by omega)⟩
  obtain ⟨g1, g2, g3, g4, g5, g6, g7, g8⟩ := key _ _ _ _ (hk_le ux uy wx wy sq hs hp) rfl rfl
  exact ⟨g1, g2, g3, g4, g5, g6, g7, g8⟩
theorem round_rng {b ux uy x y : Int} (b1 : 1 ≤ b) (b2 : b ≤ 1000) (u1 : -16777216000 ≤ ux) (u2 : ux ≤ 16777216000) (v1 : -16777216000 ≤ uy) (v2 : uy ≤ 16777216000) (x1 : -50331648 ≤ x) (x2 : x ≤ 50331648) (y1 : -50331648 ≤ y) (y2 : y ≤ 50331648) :
    (0 ≤ x * x ∧ x * x ≤ 2533274790395904) ∧ (0 ≤ y * y ∧ y * y ≤ 2533274790395904) ∧ (0 ≤ b * (x * x + y * y) ∧ b * (x * x + y * y) ≤ 5066549580791808000) ∧
    (-844424930131968000 ≤ ux * x ∧ ux * x ≤ 844424930131968000) ∧ (-844424930131968000 ≤ uy * y ∧ uy * y ≤ 844424930131968000) ∧ (-50331648 ≤ x.tdiv 2 ∧ x.tdiv 2 ≤ 50331648) ∧ (-50331648 ≤ y.tdiv 2 ∧ y.tdiv 2 ≤ 50331648) := by
  have a1 := sq_mono x1 x2
  have a2 := sq_mono y1 y2
  have a3 := sq_nonneg x
  have a4 := sq_nonneg y
  have a5 := mul_bd ux x 16777216000 50331648 u1 u2 x1 x2
  have a6 := mul_bd uy y 16777216000 50331648 v1 v2 y1 y2
  have a7 := mul_range b (x * x + y * y) 1000 5066549580791808 (by omega) b2 (by omega) (by omega)
  have w1 := within_half x
  have w2 := within_half y
  unfold Within at w1 w2
  refine ⟨by omega, by omega, by omega, by omega, by omega, ?_, ?_⟩
  · rcases Int.le_total 0 x with h | h
    · have := w1.1 h; omega
    · have := w1.2 h; omega
  · rcases Int.le_total 0 y with h | h
    · have := w2.1 h; omega
    · have := w2.2 h; omega
end Go.Proofs.Yteodlcpcgfjdcaa.M
end
section
namespace Go.Proofs.Yteodlcpcgfjdcaa.M
theorem mul_bd' {a b A B C : Int} (hC : A * B = C) (h1 : -A ≤ a ∧ a ≤ A) (h2 : -B ≤ b ∧ b ≤ B) : -C ≤ a * b ∧ a * b ≤ C := by
  subst hC
  exact mul_bd a b A B h1.1 h1.2 h2.1 h2.2
theorem kick_debts {ux uy wx wy sq b r d : Int} (hs : sq = wx * wx + wy * wy) (hp : 0 < sq) (b1 : 1 ≤ b) (b2 : b ≤ 1000) (r1 : 0 ≤ r) (r2 : r ≤ 950) (d1 : 0 ≤ d) (d2 : d ≤ 300)
    (x1 : -(b * 16777216) ≤ ux) (x2 : ux ≤ b * 16777216) (y1 : -(b * 16777216) ≤ uy) (y2 : uy ≤ b * 16777216) (w1 : -70000 ≤ wx) (w2 : wx ≤ 70000) (w3 : -70000 ≤ wy) (w4 : wy ≤ 70000) :
    ((-1174405120000000 ≤ ux * wx ∧ ux * wx ≤ 1174405120000000) ∧ (-1174405120000000 ≤ uy * wy ∧ uy * wy ≤ 1174405120000000) ∧ (-1174405120000000 ≤ wx * uy ∧ wx * uy ≤ 1174405120000000) ∧ (-1174405120000000 ≤ wy * ux ∧ wy * ux ≤ 1174405120000000)) ∧
    ((-50000000000 ≤ (ux * wx + uy * wy).tdiv sq ∧ (ux * wx + uy * wy).tdiv sq ≤ 50000000000) ∧ (-50000000000 ≤ (wx * uy - wy * ux).tdiv sq ∧ (wx * uy - wy * ux).tdiv sq ≤ 50000000000) ∧
    (-97500000000000 ≤ (1000 + r) * (ux * wx + uy * wy).tdiv sq ∧ (1000 + r) * (ux * wx + uy * wy).tdiv sq ≤ 97500000000000) ∧ (-97500000000000 ≤ d * (wx * uy - wy * ux).tdiv sq ∧ d * (wx * uy - wy * ux).tdiv sq ≤ 97500000000000) ∧
    (-97500000000000 ≤ (1000 + r) * (ux * wx + uy * wy).tdiv sq * wx ∧ (1000 + r) * (ux * wx + uy * wy).tdiv sq * wx ≤ 97500000000000) ∧ (-97500000000000 ≤ (1000 + r) * (ux * wx + uy * wy).tdiv sq * wy ∧ (1000 + r) * (ux * wx + uy * wy).tdiv sq * wy ≤ 97500000000000) ∧
    (-97500000000000 ≤ d * (wx * uy - wy * ux).tdiv sq * wx ∧ d * (wx * uy - wy * ux).tdiv sq * wx ≤ 97500000000000) ∧ (-97500000000000 ≤ d * (wx * uy - wy * ux).tdiv sq * wy ∧ d * (wx * uy - wy * ux).tdiv sq * wy ≤ 97500000000000)) ∧
    ((-50331648 ≤ ((1000 + r) * (ux * wx + uy * wy).tdiv sq * wx - d * (wx * uy - wy * ux).tdiv sq * wy).tdiv (1000 * b) ∧ ((1000 + r) * (ux * wx + uy * wy).tdiv sq * wx - d * (wx * uy - wy * ux).tdiv sq * wy).tdiv (1000 * b) ≤ 50331648) ∧
     (-50331648 ≤ ((1000 + r) * (ux * wx + uy * wy).tdiv sq * wy + d * (wx * uy - wy * ux).tdiv sq * wx).tdiv (1000 * b) ∧ ((1000 + r) * (ux * wx + uy * wy).tdiv sq * wy + d * (wx * uy - wy * ux).tdiv sq * wx).tdiv (1000 * b) ≤ 50331648)) := by
  have ⟨k1, k2, k3, k4, k5, k6, kx, ky⟩ := kick_rng hs hp b1 b2 r1 r2 d1 d2 x1 x2 y1 y2
  have ex : k0x ux uy wx wy sq b r d = ((1000 + r) * hh ux uy wx wy sq * wx - d * kk ux uy wx wy sq * wy).tdiv (1000 * b) := rfl
  have ey : k0y ux uy wx wy sq b r d = ((1000 + r) * hh ux uy wx wy sq * wy + d * kk ux uy wx wy sq * wx).tdiv (1000 * b) := rfl
  rw [ex] at kx
  rw [ey] at ky
  clear ex ey
  unfold hh at k1 k2 k5 kx ky
  unfold kk at k3 k4 k6 kx ky
  have hr : -1950 ≤ 1000 + r ∧ 1000 + r ≤ 1950 := by omega
  have hd : -1950 ≤ d ∧ d ≤ 1950 := by omega
  have hux : -16777216000 ≤ ux ∧ ux ≤ 16777216000 := by omega
  have huy : -16777216000 ≤ uy ∧ uy ≤ 16777216000 := by omega
  refine ⟨⟨mul_bd' (by decide) hux ⟨w1, w2⟩, mul_bd' (by decide) huy ⟨w3, w4⟩, mul_bd' (by decide) ⟨w1, w2⟩ huy, mul_bd' (by decide) ⟨w3, w4⟩ hux⟩, ⟨k5, k6, mul_bd' (by decide) hr k5, mul_bd' (by decide) hd k6, ?_, ?_, ?_, ?_⟩, kx, ky⟩
  · rw [Int.mul_assoc]; exact mul_bd' (by decide) hr k1
  · rw [Int.mul_assoc]; exact mul_bd' (by decide) hr k2
  · rw [Int.mul_assoc]; exact mul_bd' (by decide) hd k3
  · rw [Int.mul_assoc]; exact mul_bd' (by decide) hd k4
theorem kick_forms (ux uy wx wy b r d sq : Int) :
    uy * wx = wx * uy ∧ ux * wy = wy * ux ∧ (uy * wx - ux * wy).tdiv sq = (wx * uy - wy * ux).tdiv sq ∧
    (1000 + r) * wx * (ux * wx + uy * wy).tdiv sq = (1000 + r) * (ux * wx + uy * wy).tdiv sq * wx ∧ (1000 + r) * wy * (ux * wx + uy * wy).tdiv sq = (1000 + r) * (ux * wx + uy * wy).tdiv sq * wy ∧
    d * wx * (uy * wx - ux * wy).tdiv sq = d * (wx * uy - wy * ux).tdiv sq * wx ∧ d * wy * (uy * wx - ux * wy).tdiv sq = d * (wx * uy - wy * ux).tdiv sq * wy ∧
    ((1000 + r) * wx * (ux * wx + uy * wy).tdiv sq - d * wy * (uy * wx - ux * wy).tdiv sq).tdiv (1000 * b) = ((1000 + r) * (ux * wx + uy * wy).tdiv sq * wx - d * (wx * uy - wy * ux).tdiv sq * wy).tdiv (1000 * b) ∧
    ((1000 + r) * wy * (ux * wx + uy * wy).tdiv sq + d * wx * (uy * wx - ux * wy).tdiv sq).tdiv (1000 * b) = ((1000 + r) * (ux * wx + uy * wy).tdiv sq * wy + d * (wx * uy - wy * ux).tdiv sq * wx).tdiv (1000 * b) := by
  have a1 : uy * wx = wx * uy := Int.mul_comm _ _
  have a2 : ux * wy = wy * ux := Int.mul_comm _ _
  have a3 : (uy * wx - ux * wy).tdiv sq = (wx * uy - wy * ux).tdiv sq := by rw [a1, a2]
  have sw : ∀ p q s : Int, p * q * s = p * s * q := fun p q s => by grind
  have a4 := sw (1000 + r) wx ((ux * wx + uy * wy).tdiv sq)
  have a5 := sw (1000 + r) wy ((ux * wx + uy * wy).tdiv sq)
  have a6 : d * wx * (uy * wx - ux * wy).tdiv sq = d * (wx * uy - wy * ux).tdiv sq * wx := by rw [a3, sw]
  have a7 : d * wy * (uy * wx - ux * wy).tdiv sq = d * (wx * uy - wy * ux).tdiv sq * wy := by rw [a3, sw]
  exact ⟨a1, a2, a3, a4, a5, a6, a7, by rw [a4, a7], by rw [a5, a6]⟩
theorem kick_small {wx wy r d : Int} (r1 : 0 ≤ r) (r2 : r ≤ 950) (d1 : 0 ≤ d) (d2 : d ≤ 300) (w1 : -70000 ≤ wx) (w2 : wx ≤ 70000) (w3 : -70000 ≤ wy) (w4 : wy ≤ 70000) :
    (0 ≤ wx * wx ∧ wx * wx ≤ 4900000000) ∧ (0 ≤ wy * wy ∧ wy * wy ≤ 4900000000) ∧ (-136500000 ≤ (1000 + r) * wx ∧ (1000 + r) * wx ≤ 136500000) ∧ (-136500000 ≤ (1000 + r) * wy ∧ (1000 + r) * wy ≤ 136500000) ∧
    (-136500000 ≤ d * wx ∧ d * wx ≤ 136500000) ∧ (-136500000 ≤ d * wy ∧ d * wy ≤ 136500000) := by
  have a1 := sq_mono w1 w2
  have a2 := sq_mono w3 w4
  have a3 := sq_nonneg wx
  have a4 := sq_nonneg wy
  exact ⟨by omega, by omega, mul_bd' (A := 1950) (B := 70000) (by decide) (by omega) (by omega), mul_bd' (A := 1950) (B := 70000) (by decide) (by omega) (by omega), mul_bd' (A := 1950) (B := 70000) (by decide) (by omega) (by omega), mul_bd' (A := 1950) (B := 70000) (by decide) (by omega) (by omega)⟩
end Go.Proofs.Yteodlcpcgfjdcaa.M
end
section
namespace Go.Proofs.Yteodlcpcgfjdcaa.M
def In (x y : Int) : Prop := (-4194304 ≤ x ∧ x ≤ 4194304) ∧ (-4194304 ≤ y ∧ y ≤ 4194304)
theorem chk_cases (ps : List (Int × Int)) : (chk ps = 0 ∧ ∀ p ∈ ps, In p.1 p.2) ∨ (chk ps = 2 ∧ ∃ p ∈ ps, ¬ In p.1 p.2) := by
  unfold chk okAll
  by_cases h : ps.all (fun p => fits p.1 && fits p.2) = true
  · rw [if_pos h]
    rw [List.all_eq_true] at h
    refine .inl ⟨rfl, fun p hp => ?_⟩
    have := h p hp
    simp [fits] at this
    unfold In
    omega
  · rw [if_neg h]
    rw [Bool.not_eq_true, List.all_eq_false] at h
    obtain ⟨p, hp, hn⟩ := h
    refine .inr ⟨rfl, p, hp, fun hi => hn ?_⟩
    unfold In at hi
    simp [fits, hi]
theorem sq_bd {x y u v : Int} (h1 : In x y) (h2 : In u v) : 0 ≤ sq x y u v ∧ sq x y u v ≤ 140737488355328 := by
  unfold In at h1 h2
  obtain ⟨a1, a2⟩ := mul_bd (u - x) (u - x) 8388608 8388608 (by omega) (by omega) (by omega) (by omega)
  obtain ⟨b1, b2⟩ := mul_bd (v - y) (v - y) 8388608 8388608 (by omega) (by omega) (by omega) (by omega)
  have c1 := sq_nonneg (u - x)
  have c2 := sq_nonneg (v - y)
  unfold sq
  omega
end Go.Proofs.Yteodlcpcgfjdcaa.M
end
section
namespace Go.Proofs.Yteodlcpcgfjdcaa.M
theorem place_in {x y : Int} (h : placeB x y = true) : In x y := by
  simp only [placeB, Bool.and_eq_true, btw_iff] at h
  exact h
theorem mot_facts {m r a b u v p q : Int} (h : motB m r a b u v p q = true) : ((400 ≤ m ∧ m ≤ 500) ∧ (1000 ≤ r ∧ r ≤ 4096)) ∧ ((-4194304 ≤ a ∧ a ≤ 4194304) ∧ (-4194304 ≤ b ∧ b ≤ 4194304)) ∧ ((-16777216 ≤ u ∧ u ≤ 16777216) ∧ (-16777216 ≤ v ∧ v ≤ 16777216)) ∧ ((-(32 * m) ≤ p ∧ p ≤ 32 * m - 1) ∧ (-(32 * m) ≤ q ∧ q ≤ 32 * m - 1)) := by
  simp only [motB, ballB, placeB, momB, restB, Bool.and_eq_true, btw_iff] at h
  omega
theorem bnc_facts {r d : Int} (h : bncB r d = true) : (0 ≤ r ∧ r ≤ 950) ∧ (0 ≤ d ∧ d ≤ 300) := by
  simp only [bncB, Bool.and_eq_true, btw_iff] at h
  omega
theorem mot_place {m r a b u v p q : Int} (h : motB m r a b u v p q = true) : placeB a b = true := by
  simp only [motB, Bool.and_eq_true] at h
  exact h.1.1.2
def nearB (s R : Int) : Bool := decide (s ≤ R * R) && decide (225 * R * R ≤ 256 * s)
def kickE (near : Bool) (d : Int) : Int := if near then (if 0 < d then 0 else 10) else 5
def sel (e x : Int) : Int := if e = 0 then x else 0
theorem near_facts {x y u v R : Int} (h : nearB (sq x y u v) R = true) (h1 : 1 ≤ R) (h2 : R ≤ 69632) : 0 < sq x y u v ∧ (-R ≤ u - x ∧ u - x ≤ R) ∧ (-R ≤ v - y ∧ v - y ≤ R) := by
  simp only [nearB, Bool.and_eq_true, decide_eq_true_eq] at h
  have a1 : 1 * 1 ≤ R * R := Int.mul_le_mul h1 h1 (by omega) (by omega)
  have e1 : 225 * R * R = 225 * (R * R) := by grind
  have a2 := sq_nonneg (u - x)
  have a3 := sq_nonneg (v - y)
  have hs : sq x y u v = (u - x) * (u - x) + (v - y) * (v - y) := rfl
  exact ⟨by omega, of_sq (by omega) (by omega), of_sq (by omega) (by omega)⟩
theorem reach_facts {R : Int} (h1 : 1 ≤ R) (h2 : R ≤ 69632) : (1 ≤ R * R ∧ R * R ≤ 4848615424) ∧ (1 ≤ 225 * R ∧ 225 * R ≤ 15667200) ∧ (1 ≤ 225 * R * R ∧ 225 * R * R ≤ 1090938470400) := by
  have a1 : 1 * 1 ≤ R * R := Int.mul_le_mul h1 h1 (by omega) (by omega)
  have a2 : R * R ≤ 69632 * 69632 := sq_mono (by omega) h2
  have e1 : 225 * R * R = 225 * (R * R) := by grind
  omega
theorem urge_facts {m1 m2 u1 u2 : Int} (h1 : 400 ≤ m1 ∧ m1 ≤ 500) (h2 : 400 ≤ m2 ∧ m2 ≤ 500) (k1 : -16777216 ≤ u1 ∧ u1 ≤ 16777216) (k2 : -16777216 ≤ u2 ∧ u2 ≤ 16777216) :
    (-8388608000 ≤ m2 * u1 ∧ m2 * u1 ≤ 8388608000) ∧ (-8388608000 ≤ m1 * u2 ∧ m1 * u2 ≤ 8388608000) ∧ (-((m1 + m2) * 16777216) ≤ m2 * u1 - m1 * u2 ∧ m2 * u1 - m1 * u2 ≤ (m1 + m2) * 16777216) := by
  have a1 : m2 * u1 ≤ m2 * 16777216 := Int.mul_le_mul_of_nonneg_left k1.2 (by omega)
  have a2 : m2 * -16777216 ≤ m2 * u1 := Int.mul_le_mul_of_nonneg_left k1.1 (by omega)
  have a3 : m1 * u2 ≤ m1 * 16777216 := Int.mul_le_mul_of_nonneg_left k2.2 (by omega)
  have a4 : m1 * -16777216 ≤ m1 * u2 := Int.mul_le_mul_of_nonneg_left k2.1 (by omega)
  omega
theorem dot_facts {ux uy wx wy : Int} (x1 : -16777216000 ≤ ux ∧ ux ≤ 16777216000) (y1 : -16777216000 ≤ uy ∧ uy ≤ 16777216000) (w1 : -8388608 ≤ wx ∧ wx ≤ 8388608) (w2 : -8388608 ≤ wy ∧ wy ≤ 8388608) :
    (-140737488355328000 ≤ ux * wx ∧ ux * wx ≤ 140737488355328000) ∧ (-140737488355328000 ≤ uy * wy ∧ uy * wy ≤ 140737488355328000) ∧ (wx * ux = ux * wx ∧ wy * uy = uy * wy) :=
  ⟨mul_bd' (by decide) x1 w1, mul_bd' (by decide) y1 w2, Int.mul_comm _ _, Int.mul_comm _ _⟩
theorem err_two {b : Bool} (h : b = false) : err b = 2 := by rw [h]; rfl
def KE (m1 r1 a1 b1 u1 v1 p1 q1 m2 r2 a2 b2 u2 v2 p2 q2 rb dg : Int) : Int := if motB m1 r1 a1 b1 u1 v1 p1 q1 && motB m2 r2 a2 b2 u2 v2 p2 q2 && bncB rb dg then kickE (nearB (sq a1 b1 a2 b2) (r1 + r2)) ((m2 * u1 - m1 * u2) * (a2 - a1) + (m2 * v1 - m1 * v2) * (b2 - b1)) else 2
def KX (m1 r1 a1 b1 u1 v1 p1 q1 m2 r2 a2 b2 u2 v2 p2 q2 rb dg : Int) : Int := if KE m1 r1 a1 b1 u1 v1 p1 q1 m2 r2 a2 b2 u2 v2 p2 q2 rb dg = 0 then kx (m2 * u1 - m1 * u2) (m2 * v1 - m1 * v2) (a2 - a1) (b2 - b1) (sq a1 b1 a2 b2) (m1 + m2) rb dg else 0
def KY (m1 r1 a1 b1 u1 v1 p1 q1 m2 r2 a2 b2 u2 v2 p2 q2 rb dg : Int) : Int := if KE m1 r1 a1 b1 u1 v1 p1 q1 m2 r2 a2 b2 u2 v2 p2 q2 rb dg = 0 then ky (m2 * u1 - m1 * u2) (m2 * v1 - m1 * v2) (a2 - a1) (b2 - b1) (sq a1 b1 a2 b2) (m1 + m2) rb dg else 0
def BE (m1 r1 a1 b1 u1 v1 p1 q1 m2 r2 a2 b2 u2 v2 p2 q2 rb dg : Int) : Int := if KE m1 r1 a1 b1 u1 v1 p1 q1 m2 r2 a2 b2 u2 v2 p2 q2 rb dg = 0 then (if momB (u1 - KX m1 r1 a1 b1 u1 v1 p1 q1 m2 r2 a2 b2 u2 v2 p2 q2 rb dg) (v1 - KY m1 r1 a1 b1 u1 v1 p1 q1 m2 r2 a2 b2 u2 v2 p2 q2 rb dg) && momB (u2 + KX m1 r1 a1 b1 u1 v1 p1 q1 m2 r2 a2 b2 u2 v2 p2 q2 rb dg) (v2 + KY m1 r1 a1 b1 u1 v1 p1 q1 m2 r2 a2 b2 u2 v2 p2 q2 rb dg) then 0 else 4) else KE m1 r1 a1 b1 u1 v1 p1 q1 m2 r2 a2 b2 u2 v2 p2 q2 rb dg
theorem KE_facts {m1 r1 a1 b1 u1 v1 p1 q1 m2 r2 a2 b2 u2 v2 p2 q2 rb dg : Int} (h : KE m1 r1 a1 b1 u1 v1 p1 q1 m2 r2 a2 b2 u2 v2 p2 q2 rb dg = 0) : motB m1 r1 a1 b1 u1 v1 p1 q1 = true ∧ motB m2 r2 a2 b2 u2 v2 p2 q2 = true ∧ bncB rb dg = true ∧ nearB (sq a1 b1 a2 b2) (r1 + r2) = true ∧ 0 < (m2 * u1 - m1 * u2) * (a2 - a1) + (m2 * v1 - m1 * v2) * (b2 - b1) := by
  unfold KE kickE at h
  split at h
  · rename_i hb
    simp only [Bool.and_eq_true] at hb
    split at h
    · split at h
      · exact ⟨hb.1.1, hb.1.2, hb.2, by assumption, by assumption⟩
      · omega
    · omega
  · omega
theorem KE_bad {m1 r1 a1 b1 u1 v1 p1 q1 m2 r2 a2 b2 u2 v2 p2 q2 rb dg : Int} (h : ¬ (motB m1 r1 a1 b1 u1 v1 p1 q1 = true ∧ motB m2 r2 a2 b2 u2 v2 p2 q2 = true ∧ bncB rb dg = true)) : KE m1 r1 a1 b1 u1 v1 p1 q1 m2 r2 a2 b2 u2 v2 p2 q2 rb dg = 2 := by
  unfold KE
  rw [if_neg (by simp only [Bool.and_eq_true]; intro k; exact h ⟨k.1.1, k.1.2, k.2⟩)]
theorem within_bd {x X B : Int} (h : Within x X) (h1 : -B ≤ X ∧ X ≤ B) : -B ≤ x ∧ x ≤ B := by
  unfold Within at h
  rcases Int.le_total 0 X with k | k
  · have := h.1 k; omega
  · have := h.2 k; omega
theorem K_rng {m1 r1 a1 b1 u1 v1 p1 q1 m2 r2 a2 b2 u2 v2 p2 q2 rb dg : Int} (h : KE m1 r1 a1 b1 u1 v1 p1 q1 m2 r2 a2 b2 u2 v2 p2 q2 rb dg = 0) : KickRng (m2 * u1 - m1 * u2) (m2 * v1 - m1 * v2) (a2 - a1) (b2 - b1) (sq a1 b1 a2 b2) (m1 + m2) rb dg := by
  obtain ⟨h1, h2, hx, hn, _⟩ := KE_facts h
  obtain ⟨⟨hm1, hr1⟩, ⟨ha1, hb1⟩, ⟨hu1, hv1⟩, ⟨hp1, hq1⟩⟩ := mot_facts h1
  obtain ⟨⟨hm2, hr2⟩, ⟨ha2, hb2⟩, ⟨hu2, hv2⟩, ⟨hp2, hq2⟩⟩ := mot_facts h2
  obtain ⟨hrb, hdg⟩ := bnc_facts hx
  obtain ⟨_, _, hux⟩ := urge_facts hm1 hm2 hu1 hu2
  obtain ⟨_, _, huy⟩ := urge_facts hm1 hm2 hv1 hv2
  obtain ⟨h0, _, _⟩ := near_facts hn (by omega) (by omega)
  exact kick_rng rfl h0 (by omega) (by omega) hrb.1 hrb.2 hdg.1 hdg.2 hux.1 hux.2 huy.1 huy.2
theorem K_bd (m1 r1 a1 b1 u1 v1 p1 q1 m2 r2 a2 b2 u2 v2 p2 q2 rb dg : Int) : (-50331648 ≤ KX m1 r1 a1 b1 u1 v1 p1 q1 m2 r2 a2 b2 u2 v2 p2 q2 rb dg ∧ KX m1 r1 a1 b1 u1 v1 p1 q1 m2 r2 a2 b2 u2 v2 p2 q2 rb dg ≤ 50331648) ∧ (-50331648 ≤ KY m1 r1 a1 b1 u1 v1 p1 q1 m2 r2 a2 b2 u2 v2 p2 q2 rb dg ∧ KY m1 r1 a1 b1 u1 v1 p1 q1 m2 r2 a2 b2 u2 v2 p2 q2 rb dg ≤ 50331648) := by
  unfold KX KY
  by_cases h : KE m1 r1 a1 b1 u1 v1 p1 q1 m2 r2 a2 b2 u2 v2 p2 q2 rb dg = 0
  · rw [if_pos h, if_pos h]
    have hr := K_rng h
    obtain ⟨hx, hy⟩ := kx_within (m2 * u1 - m1 * u2) (m2 * v1 - m1 * v2) (a2 - a1) (b2 - b1) (sq a1 b1 a2 b2) (m1 + m2) rb dg
    exact ⟨within_bd hx hr.x, within_bd hy hr.y⟩
  · rw [if_neg h, if_neg h]; omega
theorem KXY_zero {m1 r1 a1 b1 u1 v1 p1 q1 m2 r2 a2 b2 u2 v2 p2 q2 rb dg : Int} (h : ¬ KE m1 r1 a1 b1 u1 v1 p1 q1 m2 r2 a2 b2 u2 v2 p2 q2 rb dg = 0) : KX m1 r1 a1 b1 u1 v1 p1 q1 m2 r2 a2 b2 u2 v2 p2 q2 rb dg = 0 ∧ KY m1 r1 a1 b1 u1 v1 p1 q1 m2 r2 a2 b2 u2 v2 p2 q2 rb dg = 0 := by
  unfold KX KY
  rw [if_neg h, if_neg h]; exact ⟨rfl, rfl⟩
end Go.Proofs.Yteodlcpcgfjdcaa.M
end
section
namespace Go.Proofs.Yteodlcpcgfjdcaa.M
open Go.Proofs.Yteodlcpcgfjdcaa.E2
def goodB (xs ys : List Int) (i : Nat) : Bool := motB (at' xs (i * 2)) (at' xs (i * 2 + 1)) (at' ys (i * 6)) (at' ys (i * 6 + 1)) (at' ys (i * 6 + 2)) (at' ys (i * 6 + 3)) (at' ys (i * 6 + 4)) (at' ys (i * 6 + 5))
def allB (xs ys : List Int) (n : Nat) : Bool := (List.range n).all (goodB xs ys)
def lE (xs ys : List Int) (n k : Nat) : Int := if (8 : Int) < n then 6 else if (k : Int) = n then err (allB xs ys n) else 17
def rollF (xs ys : List Int) (k : Nat) : Int := if k % 8 < 2 then at' xs (k / 8 * 2 + k % 8) else at' ys (k / 8 * 6 + (k % 8 - 2))
def roll (xs ys : List Int) (n : Nat) : List Int := tab (n * 8) (rollF xs ys)
def rollTo (xs ys : List Int) (n i : Nat) : List Int := tab (n * 8) fun k => if k < i * 8 then rollF xs ys k else 0
theorem rollTo_0 (xs ys : List Int) (n : Nat) : rollTo xs ys n 0 = List.replicate (n * 8) 0 := by
  rw [rep_tab]
  exact tab_congr fun k hk => by rw [if_neg (by omega)]
theorem rollTo_n (xs ys : List Int) (n : Nat) : rollTo xs ys n n = roll xs ys n := tab_congr fun k hk => if_pos (by omega)
theorem rollTo_len (xs ys : List Int) (n i : Nat) : (rollTo xs ys n i).length = n * 8 := tab_len _ _
theorem roll_len (xs ys : List Int) (n : Nat) : (roll xs ys n).length = n * 8 := tab_len _ _
theorem rollF_at (xs ys : List Int) (i j : Nat) (h : j < 8) : rollF xs ys (i * 8 + j) = if j < 2 then at' xs (i * 2 + j) else at' ys (i * 6 + (j - 2)) := by
  unfold rollF
  rw [show (i * 8 + j) % 8 = j by omega, show (i * 8 + j) / 8 = i by omega]
theorem rollTo_put (xs ys : List Int) (n i : Nat) (hi : i < n) : putI (rollTo xs ys n i) (i * 8) [at' xs (i * 2), at' xs (i * 2 + 1), at' ys (i * 6), at' ys (i * 6 + 1), at' ys (i * 6 + 2), at' ys (i * 6 + 3), at' ys (i * 6 + 4), at' ys (i * 6 + 5)] = rollTo xs ys n (i + 1) := by
  unfold rollTo
  rw [putI_tab (by simp; omega)]
  refine tab_congr fun k hk => ?_
  simp only [List.length_cons, List.length_nil]
  by_cases h : i * 8 ≤ k ∧ k < i * 8 + (0 + 1 + 1 + 1 + 1 + 1 + 1 + 1 + 1)
  · rw [if_pos h, if_pos (by omega)]
    obtain ⟨j, rfl⟩ : ∃ j, k = i * 8 + j := ⟨k - i * 8, by omega⟩
    rw [rollF_at _ _ _ _ (by omega), show i * 8 + j - i * 8 = j by omega]
    have : j = 0 ∨ j = 1 ∨ j = 2 ∨ j = 3 ∨ j = 4 ∨ j = 5 ∨ j = 6 ∨ j = 7 := by omega
    rcases this with rfl | rfl | rfl | rfl | rfl | rfl | rfl | rfl <;> rfl
  · rw [if_neg h]
    by_cases h2 : k < i * 8
    · rw [if_pos h2, if_pos (by omega)]
    · rw [if_neg h2, if_neg (by omega)]
theorem at_roll (xs ys : List Int) {n i j : Nat} (hi : i < n) (h : j < 8) : at' (roll xs ys n) (i * 8 + j) = if j < 2 then at' xs (i * 2 + j) else at' ys (i * 6 + (j - 2)) := by
  unfold roll
  rw [at_tab (by omega), rollF_at _ _ _ _ h]
def goodZ (zs : List Int) (i : Nat) : Bool := motB (at' zs (i * 8)) (at' zs (i * 8 + 1)) (at' zs (i * 8 + 2)) (at' zs (i * 8 + 3)) (at' zs (i * 8 + 4)) (at' zs (i * 8 + 5)) (at' zs (i * 8 + 6)) (at' zs (i * 8 + 7))
def allZ (zs : List Int) (n : Nat) : Bool := (List.range n).all (goodZ zs)
theorem goodZ_roll (xs ys : List Int) {n i : Nat} (hi : i < n) : goodZ (roll xs ys n) i = goodB xs ys i := by
  have h : ∀ j, j < 8 → at' (roll xs ys n) (i * 8 + j) = if j < 2 then at' xs (i * 2 + j) else at' ys (i * 6 + (j - 2)) := fun j hj => at_roll xs ys hi hj
  have h0 : at' (roll xs ys n) (i * 8) = at' xs (i * 2) := h 0 (by omega)
  unfold goodZ goodB
  rw [h0, h 1 (by omega), h 2 (by omega), h 3 (by omega), h 4 (by omega), h 5 (by omega), h 6 (by omega), h 7 (by omega)]
  rfl
theorem allZ_roll (xs ys : List Int) (n : Nat) : allZ (roll xs ys n) n = allB xs ys n := by
  unfold allZ allB
  rw [Bool.eq_iff_iff, List.all_eq_true, List.all_eq_true]
  constructor
  · intro h i hi; rw [← goodZ_roll xs ys (List.mem_range.1 hi)]; exact h i hi
  · intro h i hi; rw [goodZ_roll xs ys (List.mem_range.1 hi)]; exact h i hi
def motF (zs : List Int) (k : Nat) : Int := at' zs (k / 6 * 8 + (k % 6 + 2))
def mots (zs : List Int) (n : Nat) : List Int := tab (n * 6) (motF zs)
def motTo (zs : List Int) (n i : Nat) : List Int := tab (n * 6) fun k => if k < i * 6 then motF zs k else 0
theorem motTo_0 (zs : List Int) (n : Nat) : motTo zs n 0 = List.replicate (n * 6) 0 := by
  rw [rep_tab]
  exact tab_congr fun k hk => by rw [if_neg (by omega)]
theorem motTo_n (zs : List Int) (n : Nat) : motTo zs n n = mots zs n := tab_congr fun k hk => if_pos (by omega)
theorem motTo_len (zs : List Int) (n i : Nat) : (motTo zs n i).length = n * 6 := tab_len _ _
theorem motF_at (zs : List Int) (i j : Nat) (h : j < 6) : motF zs (i * 6 + j) = at' zs (i * 8 + (j + 2)) := by
  unfold motF
  rw [show (i * 6 + j) % 6 = j by omega, show (i * 6 + j) / 6 = i by omega]
theorem motTo_put (zs : List Int) (n i : Nat) (hi : i < n) : putI (motTo zs n i) (i * 6) [at' zs (i * 8 + 2), at' zs (i * 8 + 3), at' zs (i * 8 + 4), at' zs (i * 8 + 5), at' zs (i * 8 + 6), at' zs (i * 8 + 7)] = motTo zs n (i + 1) := by
  unfold motTo
  rw [putI_tab (by simp; omega)]
  refine tab_congr fun k hk => ?_
  simp only [List.length_cons, List.length_nil]
  by_cases h : i * 6 ≤ k ∧ k < i * 6 + (0 + 1 + 1 + 1 + 1 + 1 + 1)
  · rw [if_pos h, if_pos (by omega)]
    obtain ⟨j, rfl⟩ : ∃ j, k = i * 6 + j := ⟨k - i * 6, by omega⟩
    rw [motF_at _ _ _ (by omega), show i * 6 + j - i * 6 = j by omega]
    have : j = 0 ∨ j = 1 ∨ j = 2 ∨ j = 3 ∨ j = 4 ∨ j = 5 := by omega
    rcases this with rfl | rfl | rfl | rfl | rfl | rfl <;> rfl
  · rw [if_neg h]
    by_cases h2 : k < i * 6
    · rw [if_pos h2, if_pos (by omega)]
    · rw [if_neg h2, if_neg (by omega)]
theorem mots_roll (xs ys : List Int) (n : Nat) (h : ys.length = n * 6) : mots (roll xs ys n) n = ys := by
  refine (eq_tab h fun k hk => ?_).symm
  obtain ⟨i, j, hj, rfl⟩ : ∃ i j, j < 6 ∧ k = i * 6 + j := ⟨k / 6, k % 6, by omega, by omega⟩
  rw [motF_at _ _ _ hj, at_roll xs ys (by omega) (by omega), if_neg (by omega)]
  congr 1
def sumY (ys : List Int) (o : Nat) : Nat → Int
  | 0 => 0
  | i + 1 => sumY ys o i + at' ys (i * 6 + o)
def sumZ (zs : List Int) (o : Nat) : Nat → Int
  | 0 => 0
  | i + 1 => sumZ zs o i + at' zs (i * 8 + o)
theorem sumZ_roll (xs ys : List Int) {n o : Nat} (ho : o < 6) : ∀ i, i ≤ n → sumZ (roll xs ys n) (o + 2) i = sumY ys o i
  | 0, _ => rfl
  | i + 1, h => by
    simp only [sumZ, sumY]
    rw [sumZ_roll xs ys ho i (by omega), at_roll xs ys (by omega) (by omega), if_neg (by omega)]
    rfl
theorem goodZ_mom {zs : List Int} {i : Nat} (h : goodZ zs i = true) : (-16777216 ≤ at' zs (i * 8 + 4) ∧ at' zs (i * 8 + 4) ≤ 16777216) ∧ (-16777216 ≤ at' zs (i * 8 + 5) ∧ at' zs (i * 8 + 5) ≤ 16777216) := by
  obtain ⟨_, _, hm, _⟩ := mot_facts h
  exact hm
theorem sumZ_bd {zs : List Int} {n : Nat} (h : allZ zs n = true) : ∀ i, i ≤ n → (-16777216 * i ≤ sumZ zs 4 i ∧ sumZ zs 4 i ≤ 16777216 * i) ∧ (-16777216 * i ≤ sumZ zs 5 i ∧ sumZ zs 5 i ≤ 16777216 * i)
  | 0, _ => by simp [sumZ]
  | i + 1, hi => by
    have := sumZ_bd h i (by omega)
    have g := goodZ_mom (all_range h i (by omega))
    simp only [sumZ]
    omega
end Go.Proofs.Yteodlcpcgfjdcaa.M
end
section
namespace Go.Proofs.Yteodlcpcgfjdcaa.M
open Go.Proofs.Yteodlcpcgfjdcaa.E2
def be (xs os : List Int) (rb dg : Int) (i k : Nat) : Int := BE (at' xs (i * 2)) (at' xs (i * 2 + 1)) (at' os (i * 6)) (at' os (i * 6 + 1)) (at' os (i * 6 + 2)) (at' os (i * 6 + 3)) (at' os (i * 6 + 4)) (at' os (i * 6 + 5)) (at' xs (k * 2)) (at' xs (k * 2 + 1)) (at' os (k * 6)) (at' os (k * 6 + 1)) (at' os (k * 6 + 2)) (at' os (k * 6 + 3)) (at' os (k * 6 + 4)) (at' os (k * 6 + 5)) rb dg
def bkx (xs os : List Int) (rb dg : Int) (i k : Nat) : Int := KX (at' xs (i * 2)) (at' xs (i * 2 + 1)) (at' os (i * 6)) (at' os (i * 6 + 1)) (at' os (i * 6 + 2)) (at' os (i * 6 + 3)) (at' os (i * 6 + 4)) (at' os (i * 6 + 5)) (at' xs (k * 2)) (at' xs (k * 2 + 1)) (at' os (k * 6)) (at' os (k * 6 + 1)) (at' os (k * 6 + 2)) (at' os (k * 6 + 3)) (at' os (k * 6 + 4)) (at' os (k * 6 + 5)) rb dg
def bky (xs os : List Int) (rb dg : Int) (i k : Nat) : Int := KY (at' xs (i * 2)) (at' xs (i * 2 + 1)) (at' os (i * 6)) (at' os (i * 6 + 1)) (at' os (i * 6 + 2)) (at' os (i * 6 + 3)) (at' os (i * 6 + 4)) (at' os (i * 6 + 5)) (at' xs (k * 2)) (at' xs (k * 2 + 1)) (at' os (k * 6)) (at' os (k * 6 + 1)) (at' os (k * 6 + 2)) (at' os (k * 6 + 3)) (at' os (k * 6 + 4)) (at' os (k * 6 + 5)) rb dg
def nI (xs os : List Int) (rb dg : Int) (i k j : Nat) : Int := sel (be xs os rb dg i k) (if j = 2 then at' os (i * 6 + j) - bkx xs os rb dg i k else if j = 3 then at' os (i * 6 + j) - bky xs os rb dg i k else at' os (i * 6 + j))
def nK (xs os : List Int) (rb dg : Int) (i k j : Nat) : Int := sel (be xs os rb dg i k) (if j = 2 then at' os (k * 6 + j) + bkx xs os rb dg i k else if j = 3 then at' os (k * 6 + j) + bky xs os rb dg i k else at' os (k * 6 + j))
def beZ (zs : List Int) (rb dg : Int) (i k : Nat) : Int := BE (at' zs (i * 8)) (at' zs (i * 8 + 1)) (at' zs (i * 8 + 2)) (at' zs (i * 8 + 3)) (at' zs (i * 8 + 4)) (at' zs (i * 8 + 5)) (at' zs (i * 8 + 6)) (at' zs (i * 8 + 7)) (at' zs (k * 8)) (at' zs (k * 8 + 1)) (at' zs (k * 8 + 2)) (at' zs (k * 8 + 3)) (at' zs (k * 8 + 4)) (at' zs (k * 8 + 5)) (at' zs (k * 8 + 6)) (at' zs (k * 8 + 7)) rb dg
def kxZ (zs : List Int) (rb dg : Int) (i k : Nat) : Int := KX (at' zs (i * 8)) (at' zs (i * 8 + 1)) (at' zs (i * 8 + 2)) (at' zs (i * 8 + 3)) (at' zs (i * 8 + 4)) (at' zs (i * 8 + 5)) (at' zs (i * 8 + 6)) (at' zs (i * 8 + 7)) (at' zs (k * 8)) (at' zs (k * 8 + 1)) (at' zs (k * 8 + 2)) (at' zs (k * 8 + 3)) (at' zs (k * 8 + 4)) (at' zs (k * 8 + 5)) (at' zs (k * 8 + 6)) (at' zs (k * 8 + 7)) rb dg
def kyZ (zs : List Int) (rb dg : Int) (i k : Nat) : Int := KY (at' zs (i * 8)) (at' zs (i * 8 + 1)) (at' zs (i * 8 + 2)) (at' zs (i * 8 + 3)) (at' zs (i * 8 + 4)) (at' zs (i * 8 + 5)) (at' zs (i * 8 + 6)) (at' zs (i * 8 + 7)) (at' zs (k * 8)) (at' zs (k * 8 + 1)) (at' zs (k * 8 + 2)) (at' zs (k * 8 + 3)) (at' zs (k * 8 + 4)) (at' zs (k * 8 + 5)) (at' zs (k * 8 + 6)) (at' zs (k * 8 + 7)) rb dg
def zI (zs : List Int) (rb dg : Int) (i k j : Nat) : Int := sel (beZ zs rb dg i k) (if j = 4 then at' zs (i * 8 + j) - kxZ zs rb dg i k else if j = 5 then at' zs (i * 8 + j) - kyZ zs rb dg i k else at' zs (i * 8 + j))
def zK (zs : List Int) (rb dg : Int) (i k j : Nat) : Int := sel (beZ zs rb dg i k) (if j = 4 then at' zs (k * 8 + j) + kxZ zs rb dg i k else if j = 5 then at' zs (k * 8 + j) + kyZ zs rb dg i k else at' zs (k * 8 + j))
structure St where
  os : List Int
  ps : List Int
  m : Nat
def stp (xs : List Int) (rb dg : Int) (i k : Nat) (s : St) : Option St :=
  if be xs s.os rb dg i k = 4 then none else if be xs s.os rb dg i k = 0 then some ⟨putI (putI s.os (i * 6) [nI xs s.os rb dg i k 0, nI xs s.os rb dg i k 1, nI xs s.os rb dg i k 2, nI xs s.os rb dg i k 3, nI xs s.os rb dg i k 4, nI xs s.os rb dg i k 5]) (k * 6) [nK xs s.os rb dg i k 0, nK xs s.os rb dg i k 1, nK xs s.os rb dg i k 2, nK xs s.os rb dg i k 3, nK xs s.os rb dg i k 4, nK xs s.os rb dg i k 5], s.ps ++ [(i : Int), (k : Int)], s.m + 1⟩ else some s
def inn (xs : List Int) (rb dg : Int) (n i : Nat) (s : St) : Option St := iterO (fun k s => stp xs rb dg i k s) (i + 1) (n - (i + 1)) s
def outr (xs : List Int) (rb dg : Int) (n : Nat) (s : St) : Option St := iterO (fun i s => inn xs rb dg n i s) 0 n s
def Inv (n i k : Nat) (s : St) : Prop := s.os.length = n * 6 ∧ s.ps.length = s.m * 2 ∧ s.m + i + 1 ≤ 8 * i + k
def InvO (n i : Nat) (s : St) : Prop := s.os.length = n * 6 ∧ s.ps.length = s.m * 2 ∧ s.m ≤ 8 * i
theorem stp_cases {xs : List Int} {rb dg : Int} {i k : Nat} {s s' : St} (h : stp xs rb dg i k s = some s') : (¬ be xs s.os rb dg i k = 4) ∧ ((be xs s.os rb dg i k = 0 ∧ s' = ⟨putI (putI s.os (i * 6) [nI xs s.os rb dg i k 0, nI xs s.os rb dg i k 1, nI xs s.os rb dg i k 2, nI xs s.os rb dg i k 3, nI xs s.os rb dg i k 4, nI xs s.os rb dg i k 5]) (k * 6) [nK xs s.os rb dg i k 0, nK xs s.os rb dg i k 1, nK xs s.os rb dg i k 2, nK xs s.os rb dg i k 3, nK xs s.os rb dg i k 4, nK xs s.os rb dg i k 5], s.ps ++ [(i : Int), (k : Int)], s.m + 1⟩) ∨ ((¬ be xs s.os rb dg i k = 0) ∧ s' = s)) := by
  unfold stp at h
  split at h
  · cases h
  · rename_i h4
    split at h
    · rename_i h0
      exact ⟨h4, .inl ⟨h0, (Option.some.inj h).symm⟩⟩
    · rename_i h0
      exact ⟨h4, .inr ⟨h0, (Option.some.inj h).symm⟩⟩
theorem stp_none {xs : List Int} {rb dg : Int} {i k : Nat} {s : St} (h : stp xs rb dg i k s = none) : be xs s.os rb dg i k = 4 := by
  unfold stp at h
  split at h
  · assumption
  · split at h <;> cases h
theorem Inv.step {xs : List Int} {rb dg : Int} {n i k : Nat} {s s' : St} (hi : i < n) (hk : k < n) (hv : Inv n i k s) (h : stp xs rb dg i k s = some s') : Inv n i (k + 1) s' := by
  obtain ⟨v1, v2, v3⟩ := hv
  obtain ⟨_, ⟨_, rfl⟩ | ⟨_, rfl⟩⟩ := stp_cases h
  · refine ⟨?_, ?_, by show s.m + 1 + i + 1 ≤ _; omega⟩
    · simp only [putI_length, v1, List.length_cons, List.length_nil]; omega
    · simp only [List.length_append, v2, List.length_cons, List.length_nil]; omega
  · exact ⟨v1, v2, by omega⟩
end Go.Proofs.Yteodlcpcgfjdcaa.M
end
section
namespace Go.Proofs.Yteodlcpcgfjdcaa.M
open Go.Proofs.Yteodlcpcgfjdcaa.E2
section
variable {xs os : List Int} {rb dg : Int} {n i k : Nat}
theorem at_roll8 (hi : i < n) : at' (roll xs os n) (i * 8) = at' xs (i * 2) ∧ at' (roll xs os n) (i * 8 + 1) = at' xs (i * 2 + 1) ∧ at' (roll xs os n) (i * 8 + 2) = at' os (i * 6) ∧ at' (roll xs os n) (i * 8 + 3) = at' os (i * 6 + 1) ∧ at' (roll xs os n) (i * 8 + 4) = at' os (i * 6 + 2) ∧ at' (roll xs os n) (i * 8 + 5) = at' os (i * 6 + 3) ∧ at' (roll xs os n) (i * 8 + 6) = at' os (i * 6 + 4) ∧ at' (roll xs os n) (i * 8 + 7) = at' os (i * 6 + 5) := by
  have h : ∀ j, j < 8 → at' (roll xs os n) (i * 8 + j) = if j < 2 then at' xs (i * 2 + j) else at' os (i * 6 + (j - 2)) := fun j hj => at_roll xs os hi hj
  exact ⟨h 0 (by omega), h 1 (by omega), h 2 (by omega), h 3 (by omega), h 4 (by omega), h 5 (by omega), h 6 (by omega), h 7 (by omega)⟩
theorem beZ_roll (hi : i < n) (hk : k < n) : beZ (roll xs os n) rb dg i k = be xs os rb dg i k ∧ kxZ (roll xs os n) rb dg i k = bkx xs os rb dg i k ∧ kyZ (roll xs os n) rb dg i k = bky xs os rb dg i k := by
  obtain ⟨a0, a1, a2, a3, a4, a5, a6, a7⟩ := at_roll8 (xs := xs) (os := os) hi
  obtain ⟨b0, b1, b2, b3, b4, b5, b6, b7⟩ := at_roll8 (xs := xs) (os := os) hk
  unfold beZ be kxZ bkx kyZ bky
  rw [a0, a1, a2, a3, a4, a5, a6, a7, b0, b1, b2, b3, b4, b5, b6, b7]
  exact ⟨rfl, rfl, rfl⟩
theorem roll_put (hi : i < n) (ho : os.length = n * 6) (a b u v p q : Int) : putI (roll xs os n) (i * 8) [at' xs (i * 2), at' xs (i * 2 + 1), a, b, u, v, p, q] = roll xs (putI os (i * 6) [a, b, u, v, p, q]) n := by
  unfold roll
  rw [putI_tab (by simp; omega)]
  refine tab_congr fun t ht => ?_
  simp only [List.length_cons, List.length_nil]
  obtain ⟨r, j, hj, rfl⟩ : ∃ r j, j < 8 ∧ t = r * 8 + j := ⟨t / 8, t % 8, by omega, by omega⟩
  rw [rollF_at _ _ _ _ hj, rollF_at _ _ _ _ hj]
  by_cases h : r = i
  · subst h
    rw [if_pos (by omega), show r * 8 + j - r * 8 = j by omega]
    have hat : ∀ t, t < 6 → at' (putI os (r * 6) [a, b, u, v, p, q]) (r * 6 + t) = at' [a, b, u, v, p, q] t := fun t ht => by
      rw [at_putI (by simp; omega), if_pos (by simp; omega), show r * 6 + t - r * 6 = t by omega]
    have : j = 0 ∨ j = 1 ∨ j = 2 ∨ j = 3 ∨ j = 4 ∨ j = 5 ∨ j = 6 ∨ j = 7 := by omega
    rcases this with rfl | rfl | rfl | rfl | rfl | rfl | rfl | rfl
    · rfl
    · rfl
    · exact (hat 0 (by omega)).symm
    · exact (hat 1 (by omega)).symm
    · exact (hat 2 (by omega)).symm
    · exact (hat 3 (by omega)).symm
    · exact (hat 4 (by omega)).symm
    · exact (hat 5 (by omega)).symm
  · rw [if_neg (by omega)]
    split
    · rfl
    · rw [at_putI (by simp; omega), if_neg (by simp; omega)]
theorem at_two (hi : i < n) (hk : k < n) (hik : i ≠ k) (ho : os.length = n * 6) {A B : List Int} (hA : A.length = 6) (hB : B.length = 6) (j t : Nat) (ht : t < 6) :
    at' (putI (putI os (i * 6) A) (k * 6) B) (j * 6 + t) = if j = k then at' B t else if j = i then at' A t else at' os (j * 6 + t) := by
  have hl : (putI os (i * 6) A).length = n * 6 := by rw [putI_len (by rw [hA]; omega)]; exact ho
  rw [at_putI (by rw [hl, hB]; omega), hB]
  by_cases h1 : j = k
  · subst h1
    rw [if_pos (by omega), if_pos rfl, show j * 6 + t - j * 6 = t by omega]
  · rw [if_neg (by omega), if_neg h1, at_putI (by rw [hA]; omega), hA]
    by_cases h2 : j = i
    · subst h2
      rw [if_pos (by omega), if_pos rfl, show j * 6 + t - j * 6 = t by omega]
    · rw [if_neg (by omega), if_neg h2]
theorem bounce_roll (hi : i < n) (hk : k < n) (hik : i ≠ k) (ho : os.length = n * 6) (hE : be xs os rb dg i k = 0) :
    putI (putI (roll xs os n) (i * 8) [zI (roll xs os n) rb dg i k 0, zI (roll xs os n) rb dg i k 1, zI (roll xs os n) rb dg i k 2, zI (roll xs os n) rb dg i k 3, zI (roll xs os n) rb dg i k 4, zI (roll xs os n) rb dg i k 5, zI (roll xs os n) rb dg i k 6, zI (roll xs os n) rb dg i k 7]) (k * 8) [zK (roll xs os n) rb dg i k 0, zK (roll xs os n) rb dg i k 1, zK (roll xs os n) rb dg i k 2, zK (roll xs os n) rb dg i k 3, zK (roll xs os n) rb dg i k 4, zK (roll xs os n) rb dg i k 5, zK (roll xs os n) rb dg i k 6, zK (roll xs os n) rb dg i k 7] =
    roll xs (putI (putI os (i * 6) [nI xs os rb dg i k 0, nI xs os rb dg i k 1, nI xs os rb dg i k 2, nI xs os rb dg i k 3, nI xs os rb dg i k 4, nI xs os rb dg i k 5]) (k * 6) [nK xs os rb dg i k 0, nK xs os rb dg i k 1, nK xs os rb dg i k 2, nK xs os rb dg i k 3, nK xs os rb dg i k 4, nK xs os rb dg i k 5]) n := by
  obtain ⟨a0, a1, a2, a3, a4, a5, a6, a7⟩ := at_roll8 (xs := xs) (os := os) hi
  obtain ⟨b0, b1, b2, b3, b4, b5, b6, b7⟩ := at_roll8 (xs := xs) (os := os) hk
  obtain ⟨e1, e2, e3⟩ := beZ_roll (xs := xs) (os := os) (rb := rb) (dg := dg) hi hk
  rw [← roll_put hk (by rw [putI_len (by simp; omega)]; exact ho), ← roll_put hi ho]
  unfold zI zK nI nK
  rw [e1, e2, e3, hE]
  simp [sel, a0, a1, a2, a3, a4, a5, a6, a7, b0, b1, b2, b3, b4, b5, b6, b7]
theorem BE_facts {m1 r1 a1 b1 u1 v1 p1 q1 m2 r2 a2 b2 u2 v2 p2 q2 rb dg : Int} (h : BE m1 r1 a1 b1 u1 v1 p1 q1 m2 r2 a2 b2 u2 v2 p2 q2 rb dg = 0) :
    motB m1 r1 a1 b1 (u1 - KX m1 r1 a1 b1 u1 v1 p1 q1 m2 r2 a2 b2 u2 v2 p2 q2 rb dg) (v1 - KY m1 r1 a1 b1 u1 v1 p1 q1 m2 r2 a2 b2 u2 v2 p2 q2 rb dg) p1 q1 = true ∧ motB m2 r2 a2 b2 (u2 + KX m1 r1 a1 b1 u1 v1 p1 q1 m2 r2 a2 b2 u2 v2 p2 q2 rb dg) (v2 + KY m1 r1 a1 b1 u1 v1 p1 q1 m2 r2 a2 b2 u2 v2 p2 q2 rb dg) p2 q2 = true := by
  unfold BE at h
  split at h
  · rename_i hK
    obtain ⟨k1, k2, _⟩ := KE_facts hK
    split at h
    · rename_i hm
      simp only [Bool.and_eq_true] at hm
      simp only [motB, Bool.and_eq_true] at k1 k2 ⊢
      exact ⟨⟨⟨k1.1.1, hm.1⟩, k1.2⟩, ⟨⟨k2.1.1, hm.2⟩, k2.2⟩⟩
    · cases h
  · exact absurd h (by assumption)
theorem goodB_at {j : Nat} {ws : List Int} (h : ∀ t, t < 6 → at' ws (j * 6 + t) = at' os (j * 6 + t)) : goodB xs ws j = goodB xs os j := by
  have h0 : at' ws (j * 6) = at' os (j * 6) := h 0 (by omega)
  unfold goodB
  rw [h0, h 1 (by omega), h 2 (by omega), h 3 (by omega), h 4 (by omega), h 5 (by omega)]
theorem allB_bounce (hi : i < n) (hk : k < n) (hik : i ≠ k) (ho : os.length = n * 6) (hE : be xs os rb dg i k = 0) (hg : allB xs os n = true) :
    allB xs (putI (putI os (i * 6) [nI xs os rb dg i k 0, nI xs os rb dg i k 1, nI xs os rb dg i k 2, nI xs os rb dg i k 3, nI xs os rb dg i k 4, nI xs os rb dg i k 5]) (k * 6) [nK xs os rb dg i k 0, nK xs os rb dg i k 1, nK xs os rb dg i k 2, nK xs os rb dg i k 3, nK xs os rb dg i k 4, nK xs os rb dg i k 5]) n = true := by
  unfold allB
  rw [List.all_eq_true]
  intro j hj
  have hj' := List.mem_range.1 hj
  have h := fun t ht => at_two (os := os) hi hk hik ho (A := [nI xs os rb dg i k 0, nI xs os rb dg i k 1, nI xs os rb dg i k 2, nI xs os rb dg i k 3, nI xs os rb dg i k 4, nI xs os rb dg i k 5]) (B := [nK xs os rb dg i k 0, nK xs os rb dg i k 1, nK xs os rb dg i k 2, nK xs os rb dg i k 3, nK xs os rb dg i k 4, nK xs os rb dg i k 5]) rfl rfl j t ht
  obtain ⟨f1, f2⟩ := BE_facts hE
  by_cases h1 : j = k
  · subst h1
    simp only [if_true] at h
    have h0 := h 0 (by omega)
    simp only [Nat.add_zero] at h0
    unfold goodB
    rw [h0, h 1 (by omega), h 2 (by omega), h 3 (by omega), h 4 (by omega), h 5 (by omega)]
    simp only [at', List.getD_cons_zero, List.getD_cons_succ, nK, hE, sel, if_true]
    exact f2
  · simp only [if_neg h1] at h
    by_cases h2 : j = i
    · subst h2
      simp only [if_true] at h
      have h0 := h 0 (by omega)
      simp only [Nat.add_zero] at h0
      unfold goodB
      rw [h0, h 1 (by omega), h 2 (by omega), h 3 (by omega), h 4 (by omega), h 5 (by omega)]
      simp only [at', List.getD_cons_zero, List.getD_cons_succ, nI, hE, sel, if_true]
      exact f1
    · simp only [if_neg h2] at h
      rw [goodB_at h]
      exact all_range hg j hj'
end
theorem allB_step {xs : List Int} {rb dg : Int} {n i k : Nat} {s s' : St} (hi : i < n) (hk : k < n) (hik : i ≠ k) (ho : s.os.length = n * 6) (h : stp xs rb dg i k s = some s') (hg : allB xs s.os n = true) : allB xs s'.os n = true := by
  obtain ⟨_, ⟨hE, rfl⟩ | ⟨_, rfl⟩⟩ := stp_cases h
  · exact allB_bounce hi hk hik ho hE hg
  · exact hg
end Go.Proofs.Yteodlcpcgfjdcaa.M
end
section
namespace Go.Proofs.Yteodlcpcgfjdcaa.E2
open Go Go.RowKit
section
variable {c : Cfg} {lim n0 : Nat} {rnd : Option Nat} {x : Code}
theorem upto_optB {σ : Type} (hb : ∀ b, rnd = some b → b < n0) (f : Nat → σ → Option σ) (T : Nat → σ → List V) (H : Nat → σ → Heap) (P : Nat → σ → Prop) (n : Nat) {e e1 : Ex} (Te : σ → List V) (He : σ → Heap) (B : List V → Heap → Prop) (he : e ≠ .normal) (he1 : e1 ≠ .normal) (a0 : Nat)
    (hstep : ∀ i s s', a0 ≤ i → i < n → P i s → f i s = some s' → P (i + 1) s' ∧ Runs c lim n0 rnd x (T i s) (H i s) .normal (T (i + 1) s') (H (i + 1) s'))
    (hbad : ∀ i s, a0 ≤ i → i < n → P i s → f i s = none → ∃ t h, B t h ∧ Runs c lim n0 rnd x (T i s) (H i s) e1 t h)
    (hend : ∀ s, P n s → Runs c lim n0 rnd x (T n s) (H n s) e (Te s) (He s)) : ∀ k a s, a0 ≤ a → a + k = n → P a s →
      (∃ s', iterO f a k s = some s' ∧ P n s' ∧ Runs c lim n0 rnd (.loop x) (T a s) (H a s) e (Te s') (He s')) ∨ (iterO f a k s = none ∧ ∃ t h, B t h ∧ Runs c lim n0 rnd (.loop x) (T a s) (H a s) e1 t h) := by
  have key : ∀ k a s, a0 ≤ a → a + k = n → P a s →
      (∃ s', iterO f a k s = some s' ∧ P n s' ∧ ∃ m, Rounds c lim n0 rnd x m (T a s) (H a s) e (Te s') (He s')) ∨ (iterO f a k s = none ∧ ∃ t h, B t h ∧ ∃ m, Rounds c lim n0 rnd x m (T a s) (H a s) e1 t h) := by
    intro k
    induction k with
    | zero =>
      intro a s h0 ha hp
      obtain rfl : a = n := by omega
      exact .inl ⟨s, rfl, hp, 1, rounds_done (hend s hp) he⟩
    | succ k ih =>
      intro a s h0 ha hp
      simp only [iterO]
      cases hf : f a s with
      | none =>
        obtain ⟨t, h, hB, hr⟩ := hbad a s h0 (by omega) hp hf
        exact .inr ⟨rfl, t, h, hB, 1, rounds_done hr he1⟩
      | some s' =>
        obtain ⟨p1, r1⟩ := hstep a s s' h0 (by omega) hp hf
        rcases ih (a + 1) s' (by omega) (by omega) p1 with ⟨s2, q1, q2, m, q3⟩ | ⟨q1, t, h, q2, m, q3⟩
        · exact .inl ⟨s2, q1, q2, m + 1, rounds_more hb r1 q3⟩
        · exact .inr ⟨q1, t, h, q2, m + 1, rounds_more hb r1 q3⟩
  intro k a s h0 ha hp
  rcases key k a s h0 ha hp with ⟨s2, q1, q2, m, q3⟩ | ⟨q1, t, h, q2, m, q3⟩
  · exact .inl ⟨s2, q1, q2, runs_loop q3⟩
  · exact .inr ⟨q1, t, h, q2, runs_loop q3⟩
end
end Go.Proofs.Yteodlcpcgfjdcaa.E2
end
section
namespace Go.Proofs.Yteodlcpcgfjdcaa
open Go Go.RowKit
theorem up0 {f : FuncId} {x : Value} (h : E.Ret cfg f [] (.raw x)) : E2.Ret cfx f [] (.raw x) :=
  E2.fn_of_calls (c := cfx) (args := []) fun w => E.calls_of_fn (c := cfg) (args := []) rfl rfl h w
namespace E2
theorem new_rows2 (zs ws : List Int) (T U : TypeId) (o1 o2 : Own) (h1 : (Blk.cells (ints zs) T o1).wr = true := by rfl) (h2 : (Blk.cells (ints ws) U o2).wr = true := by rfl) : ∀ (k : Nat) (X : Blk), ([some (Blk.cells (ints zs) T o1), some (Blk.cells (ints ws) U o2)] : Heap)[k]? = some (some X) → X.wr = true ∧ ∃ cs ty own, X = .cells cs ty own ∧ cs.all isRawV = true := fun k X h => by
  match k with
  | 0 =>
    simp only [List.getElem?_cons_zero, Option.some.injEq] at h
    subst h
    exact ⟨h1, _, _, _, rfl, ints_all zs⟩
  | 1 =>
    simp only [List.getElem?_cons_succ, List.getElem?_cons_zero, Option.some.injEq] at h
    subst h
    exact ⟨h2, _, _, _, rfl, ints_all ws⟩
  | k + 2 => simp at h
end E2
end Go.Proofs.Yteodlcpcgfjdcaa
end
section
namespace Go.Proofs.Yteodlcpcgfjdcaa.E2
open Go Go.RowKit
def bools (bs : List Bool) : List V := bs.map fun b => .raw (.bool b)
def bat (bs : List Bool) (k : Nat) : Bool := bs.getD k false
theorem bools_all (bs : List Bool) : (bools bs).all isRawV = true := by
  rw [List.all_eq_true]
  intro x hx
  obtain ⟨v, _, rfl⟩ := List.mem_map.1 hx
  rfl
theorem bools_len (bs : List Bool) : (bools bs).length = bs.length := by simp [bools]
theorem load_bool {c : Cfg} {bs : List Bool} {T : TypeId} {off : Nat} (hT : pureRun c.P (isAgg T) = some false) (h : off < bs.length) : loadRow c T (bools bs) off = some (.raw (.bool (bat bs off))) := by
  unfold loadRow
  rw [hT]
  dsimp only [bools]
  rw [List.getElem?_map, List.getElem?_eq_getElem h]
  simp [bat, List.getD, List.getElem?_eq_getElem h]
theorem store_bool {c : Cfg} {names : Nat} {T : TypeId} {bs : List Bool} {off : Nat} (b : Bool) (hn : pureRun c.P (Go.sizeOf T) = some 1) (h : off < bs.length) : storeRow c names T (bools bs) off (.raw (.bool b)) = some (bools (bs.set off b)) := by
  unfold storeRow
  rw [show cellsV (.raw (.bool b)) = some [.raw (.bool b)] from rfl, hn]
  have e2 : (bools bs).length = bs.length := bools_len bs
  have hc : (([V.raw (.bool b)] : List V).length = 1 ∧ 0 < 1 ∧ off + ([V.raw (.bool b)] : List V).length ≤ (bools bs).length ∧ oneCells [V.raw (.bool b)] = true ∧ unders names [V.raw (.bool b)] = true) := ⟨rfl, by decide, by rw [e2]; show off + 1 ≤ bs.length; omega, rfl, rfl⟩
  simp only [if_pos hc]
  congr 1
  unfold putAt bools
  rw [List.map_set, List.set_eq_take_append_cons_drop, if_pos (by simpa using h)]
  simp
theorem mk0_bools (n : Nat) : mk0 #[.bool false] n = bools (List.replicate n false) := by
  unfold mk0 bools
  apply List.ext_getElem?
  intro i
  rw [List.getElem?_map, List.getElem?_map]
  by_cases hi : i < n
  · rw [List.getElem?_range hi, List.getElem?_replicate, if_pos hi]
    have : i % (#[.bool false] : Array Value).size = 0 := Nat.mod_one i
    simp only [Option.map_some, this]
    rfl
  · rw [List.getElem?_eq_none (by simpa using hi), List.getElem?_eq_none (by simpa using hi)]
    rfl
theorem bat_set {bs : List Bool} {k j : Nat} {b : Bool} (h : k < bs.length) : bat (bs.set k b) j = if j = k then b else bat bs j := by
  unfold bat
  rw [List.getD_eq_getElem?_getD, List.getD_eq_getElem?_getD, List.getElem?_set]
  by_cases hj : k = j
  · subst hj; simp [h]
  · rw [if_neg hj, if_neg (fun e => hj e.symm)]
end Go.Proofs.Yteodlcpcgfjdcaa.E2
end
section
namespace Go.Proofs.Yteodlcpcgfjdcaa.M
open Go.Proofs.Yteodlcpcgfjdcaa.E2
def nearP (xs ys : List Int) (i k : Nat) : Prop := nearB (sq (at' ys (i * 6)) (at' ys (i * 6 + 1)) (at' ys (k * 6)) (at' ys (k * 6 + 1))) (at' xs (i * 2 + 1) + at' xs (k * 2 + 1)) = true
structure Kept (xs ys : List Int) (n : Nat) (s : St) : Prop where
  len : s.os.length = n * 6
  plen : s.ps.length = s.m * 2
  good : allB xs s.os n = true
  still : ∀ j, j < n → at' s.os (j * 6) = at' ys (j * 6) ∧ at' s.os (j * 6 + 1) = at' ys (j * 6 + 1) ∧ at' s.os (j * 6 + 4) = at' ys (j * 6 + 4) ∧ at' s.os (j * 6 + 5) = at' ys (j * 6 + 5)
  sum : sumY s.os 2 n = sumY ys 2 n ∧ sumY s.os 3 n = sumY ys 3 n
  met : ∀ t, t < s.m → ∃ j k : Nat, at' s.ps (t * 2) = j ∧ at' s.ps (t * 2 + 1) = k ∧ j < k ∧ k < n ∧ nearP xs ys j k
  alone : ∀ j : Nat, j < n → (∀ t, t < s.m → at' s.ps (t * 2) ≠ (j : Int) ∧ at' s.ps (t * 2 + 1) ≠ (j : Int)) → at' s.os (j * 6 + 2) = at' ys (j * 6 + 2) ∧ at' s.os (j * 6 + 3) = at' ys (j * 6 + 3)
theorem sum_two {os : List Int} {n i k : Nat} (hi : i < n) (hk : k < n) (hik : i ≠ k) (ho : os.length = n * 6) {A B : List Int} (hA : A.length = 6) (hB : B.length = 6) {o : Nat} (h6 : o < 6) :
    ∀ t, t ≤ n → sumY (putI (putI os (i * 6) A) (k * 6) B) o t = sumY os o t + (if i < t then at' A o - at' os (i * 6 + o) else 0) + (if k < t then at' B o - at' os (k * 6 + o) else 0)
  | 0, _ => by simp [sumY]
  | t + 1, ht => by
    have ih := sum_two hi hk hik ho hA hB h6 t (by omega)
    simp only [sumY]
    rw [ih, at_two hi hk hik ho hA hB t o h6]
    by_cases h1 : t = k
    · subst h1
      rw [if_pos rfl]
      by_cases h2 : i < t
      · rw [if_pos h2, if_neg (Nat.lt_irrefl t), if_pos (by omega), if_pos (by omega)]; omega
      · rw [if_neg h2, if_neg (Nat.lt_irrefl t), if_neg (by omega), if_pos (by omega)]; omega
    · rw [if_neg h1]
      by_cases h2 : t = i
      · subst h2
        rw [if_pos rfl, if_neg (Nat.lt_irrefl t), if_pos (show t < t + 1 by omega)]
        by_cases h3 : k < t
        · rw [if_pos h3, if_pos (show k < t + 1 by omega)]; omega
        · rw [if_neg h3, if_neg (show ¬ k < t + 1 by omega)]; omega
      · rw [if_neg h2]
        by_cases h3 : i < t <;> by_cases h4 : k < t
        · rw [if_pos h3, if_pos h4, if_pos (show i < t + 1 by omega), if_pos (show k < t + 1 by omega)]; omega
        · rw [if_pos h3, if_neg h4, if_pos (show i < t + 1 by omega), if_neg (show ¬ k < t + 1 by omega)]; omega
        · rw [if_neg h3, if_pos h4, if_neg (show ¬ i < t + 1 by omega), if_pos (show k < t + 1 by omega)]; omega
        · rw [if_neg h3, if_neg h4, if_neg (show ¬ i < t + 1 by omega), if_neg (show ¬ k < t + 1 by omega)]; omega
theorem be_near {xs os : List Int} {rb dg : Int} {i k : Nat} (h : be xs os rb dg i k = 0) : nearP xs os i k := by
  unfold be BE at h
  split at h
  · rename_i hK
    exact (KE_facts hK).2.2.2.1
  · exact absurd h (by assumption)
theorem app_at {ps : List Int} {m : Nat} (h : ps.length = m * 2) (a b : Int) (t : Nat) (q : Nat) (hq : q < 2) (ht : t < m + 1) : at' (ps ++ [a, b]) (t * 2 + q) = if t = m then at' [a, b] q else at' ps (t * 2 + q) := by
  unfold at'
  rw [List.getD_eq_getElem?_getD, List.getD_eq_getElem?_getD, List.getD_eq_getElem?_getD]
  by_cases h1 : t = m
  · subst h1
    rw [if_pos rfl, List.getElem?_append_right (by omega), show t * 2 + q - ps.length = q by omega]
  · rw [if_neg h1, List.getElem?_append_left (by omega)]
theorem Kept.step {xs ys : List Int} {rb dg : Int} {n i k : Nat} {s s' : St} (hik : i < k) (hk : k < n) (K : Kept xs ys n s) (h : stp xs rb dg i k s = some s') : Kept xs ys n s' := by
  obtain ⟨_, ⟨hE, rfl⟩ | ⟨_, rfl⟩⟩ := stp_cases h
  · have two := fun j t ht => at_two (os := s.os) (show i < n by omega) hk (show i ≠ k by omega) K.len (A := [nI xs s.os rb dg i k 0, nI xs s.os rb dg i k 1, nI xs s.os rb dg i k 2, nI xs s.os rb dg i k 3, nI xs s.os rb dg i k 4, nI xs s.os rb dg i k 5]) (B := [nK xs s.os rb dg i k 0, nK xs s.os rb dg i k 1, nK xs s.os rb dg i k 2, nK xs s.os rb dg i k 3, nK xs s.os rb dg i k 4, nK xs s.os rb dg i k 5]) rfl rfl j t ht
    have two0 := fun j => two j 0 (by omega)
    simp only [Nat.add_zero] at two0
    have stl : ∀ j t, t < 6 → t ≠ 2 → t ≠ 3 → at' (putI (putI s.os (i * 6) [nI xs s.os rb dg i k 0, nI xs s.os rb dg i k 1, nI xs s.os rb dg i k 2, nI xs s.os rb dg i k 3, nI xs s.os rb dg i k 4, nI xs s.os rb dg i k 5]) (k * 6) [nK xs s.os rb dg i k 0, nK xs s.os rb dg i k 1, nK xs s.os rb dg i k 2, nK xs s.os rb dg i k 3, nK xs s.os rb dg i k 4, nK xs s.os rb dg i k 5]) (j * 6 + t) = at' s.os (j * 6 + t) := fun j t ht h2 h3 => by
      rw [two j t ht]
      have hn : t = 0 ∨ t = 1 ∨ t = 4 ∨ t = 5 := by omega
      split
      · rename_i hj
        subst hj
        rcases hn with rfl | rfl | rfl | rfl <;> simp [at', nK, hE, sel]
      · split
        · rename_i hj
          subst hj
          rcases hn with rfl | rfl | rfl | rfl <;> simp [at', nI, hE, sel]
        · rfl
    refine ⟨?_, ?_, allB_bounce (by omega) hk (by omega) K.len hE K.good, fun j hj => ?_, ?_, fun t ht => ?_, fun j hj ha => ?_⟩
    · simp only [putI_length, K.len, List.length_cons, List.length_nil]; omega
    · simp only [List.length_append, K.plen, List.length_cons, List.length_nil]; omega
    · obtain ⟨a, b, c, d⟩ := K.still j hj
      have s0 := stl j 0 (by omega) (by omega) (by omega)
      simp only [Nat.add_zero] at s0
      exact ⟨s0.trans a, (stl j 1 (by omega) (by omega) (by omega)).trans b, (stl j 4 (by omega) (by omega) (by omega)).trans c, (stl j 5 (by omega) (by omega) (by omega)).trans d⟩
    · have s2 := sum_two (os := s.os) (show i < n by omega) hk (show i ≠ k by omega) K.len (A := [nI xs s.os rb dg i k 0, nI xs s.os rb dg i k 1, nI xs s.os rb dg i k 2, nI xs s.os rb dg i k 3, nI xs s.os rb dg i k 4, nI xs s.os rb dg i k 5]) (B := [nK xs s.os rb dg i k 0, nK xs s.os rb dg i k 1, nK xs s.os rb dg i k 2, nK xs s.os rb dg i k 3, nK xs s.os rb dg i k 4, nK xs s.os rb dg i k 5]) rfl rfl (o := 2) (by omega) n (Nat.le_refl _)
      have s3 := sum_two (os := s.os) (show i < n by omega) hk (show i ≠ k by omega) K.len (A := [nI xs s.os rb dg i k 0, nI xs s.os rb dg i k 1, nI xs s.os rb dg i k 2, nI xs s.os rb dg i k 3, nI xs s.os rb dg i k 4, nI xs s.os rb dg i k 5]) (B := [nK xs s.os rb dg i k 0, nK xs s.os rb dg i k 1, nK xs s.os rb dg i k 2, nK xs s.os rb dg i k 3, nK xs s.os rb dg i k 4, nK xs s.os rb dg i k 5]) rfl rfl (o := 3) (by omega) n (Nat.le_refl _)
      rw [if_pos (by omega), if_pos hk] at s2 s3
      have a2 : at' [nI xs s.os rb dg i k 0, nI xs s.os rb dg i k 1, nI xs s.os rb dg i k 2, nI xs s.os rb dg i k 3, nI xs s.os rb dg i k 4, nI xs s.os rb dg i k 5] 2 = at' s.os (i * 6 + 2) - bkx xs s.os rb dg i k := by simp [at', nI, hE, sel]
      have b2 : at' [nK xs s.os rb dg i k 0, nK xs s.os rb dg i k 1, nK xs s.os rb dg i k 2, nK xs s.os rb dg i k 3, nK xs s.os rb dg i k 4, nK xs s.os rb dg i k 5] 2 = at' s.os (k * 6 + 2) + bkx xs s.os rb dg i k := by simp [at', nK, hE, sel]
      have a3 : at' [nI xs s.os rb dg i k 0, nI xs s.os rb dg i k 1, nI xs s.os rb dg i k 2, nI xs s.os rb dg i k 3, nI xs s.os rb dg i k 4, nI xs s.os rb dg i k 5] 3 = at' s.os (i * 6 + 3) - bky xs s.os rb dg i k := by simp [at', nI, hE, sel]
      have b3 : at' [nK xs s.os rb dg i k 0, nK xs s.os rb dg i k 1, nK xs s.os rb dg i k 2, nK xs s.os rb dg i k 3, nK xs s.os rb dg i k 4, nK xs s.os rb dg i k 5] 3 = at' s.os (k * 6 + 3) + bky xs s.os rb dg i k := by simp [at', nK, hE, sel]
      rw [a2, b2] at s2
      rw [a3, b3] at s3
      have := K.sum
      show sumY (putI _ _ _) 2 n = _ ∧ sumY (putI _ _ _) 3 n = _
      omega
    · have ht' : t < s.m + 1 := ht
      have p0 := app_at K.plen (i : Int) (k : Int) t 0 (by omega) ht'
      have p1 := app_at K.plen (i : Int) (k : Int) t 1 (by omega) ht'
      simp only [Nat.add_zero] at p0
      by_cases h1 : t = s.m
      · rw [if_pos h1] at p0 p1
        refine ⟨i, k, p0, p1, hik, hk, ?_⟩
        have hn := be_near hE
        obtain ⟨a, b, _⟩ := K.still i (by omega)
        obtain ⟨c, d, _⟩ := K.still k hk
        unfold nearP at hn ⊢
        rw [a, b, c, d] at hn
        exact hn
      · rw [if_neg h1] at p0 p1
        obtain ⟨j, q, e1, e2, e3⟩ := K.met t (by omega)
        exact ⟨j, q, p0.trans e1, p1.trans e2, e3⟩
    · have last := ha s.m (by show s.m < s.m + 1; omega)
      have p0 := app_at K.plen (i : Int) (k : Int) s.m 0 (by omega) (by omega)
      have p1 := app_at K.plen (i : Int) (k : Int) s.m 1 (by omega) (by omega)
      simp only [Nat.add_zero, if_true] at p0
      rw [if_pos rfl] at p1
      have q0 : (i : Int) ≠ j := fun e => last.1 (p0.trans e)
      have q1 : (k : Int) ≠ j := fun e => last.2 (p1.trans e)
      have nj1 : ¬ j = k := fun e => q1 (by rw [e])
      have nj2 : ¬ j = i := fun e => q0 (by rw [e])
      have t2 := two j 2 (by omega)
      have t3 := two j 3 (by omega)
      rw [if_neg nj1, if_neg nj2] at t2 t3
      have := K.alone j hj fun t ht => by
        have := ha t (by show t < s.m + 1; omega)
        have r0 := app_at K.plen (i : Int) (k : Int) t 0 (by omega) (by omega)
        have r1 := app_at K.plen (i : Int) (k : Int) t 1 (by omega) (by omega)
        simp only [Nat.add_zero] at r0
        rw [if_neg (by omega)] at r0 r1
        exact ⟨by rw [← r0]; exact this.1, by rw [← r1]; exact this.2⟩
      exact ⟨t2.trans this.1, t3.trans this.2⟩
  · exact K
theorem iterO_keeps {σ : Type} {f : Nat → σ → Option σ} {P : σ → Prop} {n : Nat} {a0 : Nat} (hs : ∀ i s s', a0 ≤ i → i < n → P s → f i s = some s' → P s') : ∀ k a s s', a0 ≤ a → a + k = n → P s → iterO f a k s = some s' → P s'
  | 0, a, s, s', h0, ha, hp, h => by
    simp only [iterO, Option.some.injEq] at h
    subst h; exact hp
  | k + 1, a, s, s', h0, ha, hp, h => by
    simp only [iterO] at h
    cases hf : f a s with
    | none => rw [hf] at h; cases h
    | some q =>
      rw [hf] at h
      exact iterO_keeps hs k (a + 1) q s' (by omega) (by omega) (hs a s q h0 (by omega) hp hf) h
theorem Kept.outr {xs ys : List Int} {rb dg : Int} {n : Nat} {s s' : St} (K : Kept xs ys n s) (h : outr xs rb dg n s = some s') : Kept xs ys n s' := by
  refine iterO_keeps (P := Kept xs ys n) (n := n) (a0 := 0) (fun i s s' _ hi hp hf => ?_) n 0 s s' (Nat.le_refl _) (by omega) K h
  exact iterO_keeps (P := Kept xs ys n) (n := n) (a0 := i + 1) (fun k s s' h0 hk hp hf => hp.step h0 hk hf) (n - (i + 1)) (i + 1) s s' (Nat.le_refl _) (by omega) hp hf
theorem sumY_take {ys : List Int} {n o : Nat} (ho : o < 6) : ∀ t, t ≤ n → sumY (List.take (n * 6) ys) o t = sumY ys o t
  | 0, _ => rfl
  | t + 1, h => by
    simp only [sumY]
    rw [sumY_take ho t (by omega)]
    congr 1
    simp [at', List.getD, List.getElem?_take, show t * 6 + o < n * 6 by omega]
theorem Kept.start {xs ys : List Int} {n : Nat} (hy : 6 * n ≤ ys.length) (hg : allB xs (List.take (n * 6) ys) n = true) : Kept xs ys n ⟨List.take (n * 6) ys, [], 0⟩ := by
  have tk : ∀ k, k < n * 6 → at' (List.take (n * 6) ys) k = at' ys k := fun k hk => by simp [at', List.getD, List.getElem?_take, hk]
  exact ⟨by simp; omega, rfl, hg, fun j hj => ⟨tk _ (by omega), tk _ (by omega), tk _ (by omega), tk _ (by omega)⟩, ⟨sumY_take (by omega) n (Nat.le_refl _), sumY_take (by omega) n (Nat.le_refl _)⟩, fun t ht => absurd ht (Nat.not_lt_zero t), fun j hj _ => ⟨tk _ (by omega), tk _ (by omega)⟩⟩
def hitTo (n : Nat) (ps : List Int) : Nat → List Bool
  | 0 => List.replicate n false
  | i + 1 => ((hitTo n ps i).set (at' ps (i * 2)).toNat true).set (at' ps (i * 2 + 1)).toNat true
theorem hitTo_len (n : Nat) (ps : List Int) : ∀ i, (hitTo n ps i).length = n
  | 0 => by simp [hitTo]
  | i + 1 => by simp [hitTo, hitTo_len n ps i]
theorem hitTo_no {n : Nat} {ps : List Int} {j : Nat} (hj : j < n) : ∀ i, (∀ t, t < i → 0 ≤ at' ps (t * 2) ∧ at' ps (t * 2) < n ∧ 0 ≤ at' ps (t * 2 + 1) ∧ at' ps (t * 2 + 1) < n) → bat (hitTo n ps i) j = false → ∀ t, t < i → at' ps (t * 2) ≠ (j : Int) ∧ at' ps (t * 2 + 1) ≠ (j : Int)
  | 0, _, _, t, ht => by omega
  | i + 1, hr, h, t, ht => by
    have hh := hr i (by omega)
    simp only [hitTo] at h
    rw [bat_set (by rw [List.length_set, hitTo_len]; omega), bat_set (by rw [hitTo_len]; omega)] at h
    split at h
    · cases h
    · split at h
      · cases h
      · rename_i h1 h2
        rcases Nat.lt_or_ge t i with h3 | h3
        · exact hitTo_no hj i (fun t ht => hr t (by omega)) h t h3
        · obtain rfl : t = i := by omega
          exact ⟨by omega, by omega⟩
end Go.Proofs.Yteodlcpcgfjdcaa.M
end
section
namespace Go.Proofs.Yteodlcpcgfjdcaa
open Go.ChangeShapes Go.WideShapes Go.ChangeAt Go.RowKit
theorem grow4 {w W w1 : World} (h : Below w.heap.size w W) (hb : Below W.heap.size W w1) : Below w.heap.size w w1 ∧ W.heap.size ≤ w1.heap.size ∧ (∀ b o, b < W.heap.size → w1.cell? ⟨b, o, none⟩ = W.cell? ⟨b, o, none⟩) ∧ (∀ b o, b < W.heap.size → w1.frozen? ⟨b, o, none⟩ = W.frozen? ⟨b, o, none⟩) :=
  ⟨h.trans (hb.mono h.size), hb.size, fun b o h => hb.cell (p := ⟨b, o, none⟩) h, fun b o h => hb.frozen (p := ⟨b, o, none⟩) h⟩
set_option maxHeartbeats 1000000 in
theorem part_any (n d : Int) (w : World) (h1 : -1152921504606846976 ≤ n) (h2 : n ≤ 1152921504606846976) (h3 : 1 ≤ d) (h4 : d ≤ 1152921504606846976) :
    Calls Try.prog 60 #[.int .i64 n, .int .i64 d] w fun e w' => e = .returned (.agg #[.int .i64 (M.whole n d), .int .i64 (M.rest n d)]) ∧ Below w.heap.size w w' := by
  have hq := M.tdiv_bd n d (by omega) (-1152921504606846976) 1152921504606846976 (by omega) (by omega) h1 h2
  have hr := Int.tmod_lt_of_pos n (show 0 < d by omega)
  have hr2 : -d < n.tmod d := by
    have h1 := Int.tmod_lt_of_pos (-n) (show 0 < d by omega)
    rw [Int.neg_tmod] at h1
    omega
  obtain ⟨hq1, hq2⟩ := hq
  by_cases c1 : d ≤ 2 * n.tmod d
  · obtain ⟨e1, e2⟩ := M.part_up n d (by omega) c1
    rw [← e1, ← e2]
    clear e1 e2
    go_enter Try.func60, Try.ntmps60
    go_wp2
    go_region
    go_wp2
    go_returns
    exact ⟨rfl, by go_grown⟩
  by_cases c2 : 2 * n.tmod d < -d
  · obtain ⟨e1, e2⟩ := M.part_down n d (by omega) c2
    rw [← e1, ← e2]
    clear e1 e2
    go_enter Try.func60, Try.ntmps60
    go_wp2
    go_region
    go_wp2
    go_returns
    exact ⟨rfl, by go_grown⟩
  · obtain ⟨e1, e2⟩ := M.part_mid n d (by omega) c1 c2
    rw [← e1, ← e2]
    clear e1 e2
    go_enter Try.func60, Try.ntmps60
    go_wp2
    go_region
    go_wp2
    go_returns
    exact ⟨rfl, by go_grown⟩
theorem divide_ok (n d : Int) (w : World) (h1 : -1152921504606846976 ≤ n) (h2 : n ≤ 1152921504606846976) (h3 : 1 ≤ d) (h4 : d ≤ 1152921504606846976) :
    Calls Try.prog 43 #[.int .i64 n, .int .i64 d] w fun e w' => e = .returned (.tuple #[.agg #[.int .i64 (M.whole n d), .int .i64 (M.rest n d)], .int .i64 0]) ∧ Below w.heap.size w w' := by
  go_enter Try.func43, Try.ntmps43
  go_wp2_with (go_at_call 60; refine (part_any _ _ _ h1 h2 h3 h4).mono ?_; rintro e w1 ⟨rfl, hb1⟩; obtain ⟨hB1, hz1, hc1, hf1⟩ := grow4 (w := w) (by go_grown) hb1; (try simp only [World.size_alloc, World.size_setCell, World.size_drew] at hz1); (try have hy1 := Nat.lt_of_succ_le hz1); (try have hx1 := Nat.lt_of_succ_lt hy1); (try have hw1 := Nat.lt_of_succ_lt hx1); (try have hv1 := Nat.lt_of_succ_lt hw1); (try have ha1 : w.heap.size < w1.heap.size := (by omega)); (try have hi1 : w.heap.size + 1 < w1.heap.size := (by omega)); (try have hj1 : w.heap.size + 1 + 1 < w1.heap.size := (by omega)); (try have hk1 : w.heap.size + 1 + 1 + 1 < w1.heap.size := (by omega)); (try have hl1 : w.heap.size + 1 + 1 + 1 + 1 < w1.heap.size := (by omega)))
  all_goals
    refine bodyPost_ret (v := .tuple #[.agg #[.int .i64 (M.whole n d), .int .i64 (M.rest n d)], .int .i64 0]) (by simp [results, Try.results43, go_sem, hc1]) rfl ⟨rfl, ?_⟩
    go_grown
theorem fits_any (a : Int) (w : World) :
    Calls Try.prog 69 #[.int .i64 a] w fun e w' => e = .returned (.bool (M.fits a)) ∧ w = w' := by
  by_cases h : -4194304 ≤ a ∧ a ≤ 4194304
  · rw [M.fits_yes h]
    obtain ⟨h1, h2⟩ := h
    go_enter Try.func69, Try.ntmps69
    go_wp2
    go_returns
    exact ⟨rfl, rfl⟩
  · rw [M.fits_no h]
    by_cases h1 : -4194304 ≤ a
    all_goals
      go_enter Try.func69, Try.ntmps69
      go_wp2
      go_returns
      exact ⟨by first | rfl | (simp; omega), rfl⟩
theorem way_any (x y u v : Int) (w : World) (hx : -16777216 ≤ x) (hx2 : x ≤ 16777216) (hy : -16777216 ≤ y) (hy2 : y ≤ 16777216) (hu : -16777216 ≤ u) (hu2 : u ≤ 16777216) (hv : -16777216 ≤ v) (hv2 : v ≤ 16777216) :
    Calls Try.prog 72 #[.agg #[.int .i64 x, .int .i64 y], .agg #[.int .i64 u, .int .i64 v]] w fun e w' => e = .returned (.agg #[.int .i64 (u - x), .int .i64 (v - y)]) ∧ ((w.alloc (.cells #[.int .i64 x, .int .i64 y] 32)).alloc (.cells #[.int .i64 u, .int .i64 v] 32)).alloc (.cells #[.int .i64 (u - x), .int .i64 (v - y)] 32) = w' := by
  go_enter Try.func72, Try.ntmps72
  go_wp2
  go_returns
  exact ⟨rfl, rfl⟩
theorem square_any (x y u v : Int) (w : World) (hx : -16777216 ≤ x) (hx2 : x ≤ 16777216) (hy : -16777216 ≤ y) (hy2 : y ≤ 16777216) (hu : -16777216 ≤ u) (hu2 : u ≤ 16777216) (hv : -16777216 ≤ v) (hv2 : v ≤ 16777216) :
    Calls Try.prog 70 #[.agg #[.int .i64 x, .int .i64 y], .agg #[.int .i64 u, .int .i64 v]] w fun e w' => e = .returned (.int .i64 (M.sq x y u v)) ∧ Below w.heap.size w w' := by
  have b1 := M.mul_bd (u - x) (u - x) 33554432 33554432 (by omega) (by omega) (by omega) (by omega)
  have b2 := M.mul_bd (v - y) (v - y) 33554432 33554432 (by omega) (by omega) (by omega) (by omega)
  obtain ⟨b3, b4⟩ := b1
  obtain ⟨b5, b6⟩ := b2
  unfold M.sq
  go_enter Try.func70, Try.ntmps70
  go_wp2_with (go_at_call 72; refine (way_any _ _ _ _ _ hx hx2 hy hy2 hu hu2 hv hv2).mono ?_; rintro e w' ⟨rfl, rfl⟩)
  go_returns
  exact ⟨rfl, by go_grown⟩
end Go.Proofs.Yteodlcpcgfjdcaa
end
section
namespace Go.Proofs.Yteodlcpcgfjdcaa.R
open Go Go.RowKit
inductive Item where
  | val (v : Value)
  | new (T : TypeId) (z : Array Value)
  | put (k : Nat) (cs : Array Value)
  | old (b : Nat) (T : TypeId) (cs : Array Value)
  | skip
def Item.value (β : Nat → Nat) (i : Nat) : Item → Value
  | .val v => v
  | .new _ _ => .pointer (some ⟨β i, 0, none⟩)
  | _ => undef
structure Rewrites (w w' : World) (b : Nat) (T : TypeId) (cs : Array Value) : Prop where
  os : w'.os = w.os
  tape : w'.tape = w.tape
  output : w'.output = w.output
  size : w'.heap.size = w.heap.size
  block : ∀ k, k ≠ b → w'.heap[k]? = w.heap[k]?
  this : w'.heap[b]? = some (.cells cs T (0, 0))
def known (ops : Array Oper) (its : List Item) (a0 : Act) (o : Oper) (s : Nat) : Option Value :=
  match (List.range ops.size).find? (fun j => (ops[j]?.bind (·.dst)) == some s) with
  | none => a0.tmps[s]?
  | some j => if o.after.toList.any (fun e => Region.binds .any e && e.on == j) then (match its[j]? with | some (.val v) => some v | _ => none) else none
def Env (ops : Array Oper) (its : List Item) (a0 : Act) (o : Oper) (a : Act) : Prop := ∀ s v, known ops its a0 o s = some v → a.tmps[s]? = some v
def waitsFor (ops : Array Oper) (j i : Nat) : Bool := match ops[j]? with | some o => o.after.toList.any (fun e => Region.binds .any e && e.on == i) | none => false
def isOld (ops : Array Oper) (its : List Item) (i b : Nat) : Bool := (List.range its.length).any fun j => match its[j]? with | some (.old b' _ _) => b' == b && !waitsFor ops j i | _ => false
structure Kept (blk : Nat → Bool) (w0 w : World) : Prop where
  os : w.os = w0.os
  tape : w.tape = w0.tape
  output : w.output = w0.output
  size : w0.heap.size ≤ w.heap.size
  block : ∀ b, b < w0.heap.size → blk b = false → w.heap[b]? = w0.heap[b]?
def StepOk (P : Program) (Q : Exit → Act → World → Prop) (ops : Array Oper) (its : List Item) (a0 : Act) (w0 : World) (i : Nat) (o : Oper) : Item → Prop
  | .val v => ∀ (a : Act) (w : World) (K : Act → World → Prop), Env ops its a0 o a → Kept (isOld ops its i) w0 w → (∀ w', Below w.heap.size w w' → K (a.put o.dst v) w') → o.wp P a w K Q
  | .new T z => ∀ (a : Act) (w : World) (K : Act → World → Prop), K (a.put o.dst (.pointer (some ⟨w.heap.size, 0, none⟩))) (w.alloc (.cells z T)) → o.wp P a w K Q
  | .put k cs => ∀ (T : TypeId) (z : Array Value), its[k]? = some (.new T z) → ∀ (a : Act) (w : World) (K : Act → World → Prop) (b : Nat) (cs0 : Array Value) (d : Nat), Env ops its a0 o a → Kept (isOld ops its i) w0 w →
      (ops[k]?.bind (·.dst)) = some d → a.tmps[d]? = some (.pointer (some ⟨b, 0, none⟩)) → w.heap[b]? = some (.cells cs0 T (0, 0)) → cs0.size = z.size →
      (∀ w', Rewrites w w' b T cs → K (a.put o.dst undef) w') → o.wp P a w K Q
  | .skip => True
  | .old b T cs => ∀ (a : Act) (w : World) (K : Act → World → Prop) (cs0 : Array Value), Env ops its a0 o a → Kept (isOld ops its i) w0 w →
      w.heap[b]? = some (.cells cs0 T (0, 0)) → cs0.size = cs.size →
      (∀ w', Rewrites w w' b T cs → K (a.put o.dst undef) w') → o.wp P a w K Q
def isSkip : Item → Bool
  | .skip => true
  | _ => false
def guardOk (ops : Array Oper) (its : List Item) (o : Oper) (it : Item) : Bool :=
  match o.guard with
  | none => !isSkip it
  | some (j, want) => o.after.toList.any (fun e => Region.binds .any e && e.on == j) &&
    (match ops[j]?, its[j]? with
      | some p, some (.val (.bool b)) => p.dst.isSome && ((b == want) != isSkip it)
      | _, _ => false)
def shape (ops : Array Oper) (its : List Item) (n : Nat) : Bool :=
  (its.length == ops.size) &&
  ((List.range ops.size).all fun i => match ops[i]?, its[i]? with
    | some o, some it => (guardOk ops its o it && o.after.all fun e => !Region.binds .any e || decide (e.on < i)) &&
      (match it with
        | .val _ => true
        | .skip => true
        | .new _ _ => o.dst.isSome
        | .put k _ => o.dst.isNone && o.after.any (fun e => Region.binds .any e && e.on == k) && (match its[k]? with | some (.new _ _) => true | _ => false)
        | .old _ _ _ => o.dst.isNone) &&
      (match o.dst with | some d => decide (d < n) | none => true) &&
      ((List.range ops.size).all fun j => i == j || match ops[j]?, its[j]? with
        | some p, some jt => (o.dst.isNone || o.dst != p.dst) &&
          (match it, jt with
            | .put k _, .put k' _ => k != k'
            | _, _ => true)
        | _, _ => false)
    | _, _ => false)
structure Inv (ops : Array Oper) (its : List Item) (a0 : Act) (w0 : World) (β : Nat → Nat) (listed : Array Bool) (a : Act) (w : World) : Prop where
  len : listed.size = ops.size
  defers : a.defers = a0.defers
  tsize : a.tmps.size = a0.tmps.size
  done : ∀ (i : Nat) (o : Oper) (it : Item) (d : Nat), ops[i]? = some o → its[i]? = some it → listed[i]? = some true → o.dst = some d → a.tmps[d]? = some (it.value β i)
  rest : ∀ k, (∀ (i : Nat) (o : Oper), ops[i]? = some o → listed[i]? = some true → o.dst ≠ some k) → a.tmps[k]? = a0.tmps[k]?
  kept : Kept (isOld ops its ops.size) w0 w
  closed : ∀ (i : Nat) (o : Oper), ops[i]? = some o → listed[i]? = some true → ∀ e ∈ o.after, Region.binds .any e = true → listed[e.on]? = some true
  news : ∀ (i : Nat) (T : TypeId) (z : Array Value), its[i]? = some (.new T z) → listed[i]? = some true → w0.heap.size ≤ β i ∧ β i < w.heap.size ∧ ∃ cs, w.heap[β i]? = some (.cells cs T (0, 0)) ∧ cs.size = z.size
  apart : ∀ (i j : Nat) (T T' : TypeId) (z z' : Array Value), its[i]? = some (.new T z) → its[j]? = some (.new T' z') → listed[i]? = some true → listed[j]? = some true → i ≠ j → β i ≠ β j
  puts : ∀ (i k : Nat) (cs : Array Value) (T : TypeId) (z : Array Value), its[i]? = some (.put k cs) → its[k]? = some (.new T z) → listed[i]? = some true → listed[k]? = some true → w.heap[β k]? = some (.cells cs T (0, 0))
  olds : ∀ (i b : Nat) (T : TypeId) (cs : Array Value), its[i]? = some (.old b T cs) → listed[i]? = some true → w.heap[b]? = some (.cells cs T (0, 0))
  behind : ∀ (i k : Nat) (cs : Array Value), its[i]? = some (.put k cs) → listed[i]? = some true → listed[k]? = some true
  waits : ∀ (i b : Nat) (T : TypeId) (cs : Array Value), its[i]? = some (.old b T cs) → listed[i]? = some false → w.heap[b]? = w0.heap[b]?
theorem lookL {listed : Array Bool} {i j : Nat} (h : (listed.setIfInBounds i true)[j]? = some true) (hne : j ≠ i) : listed[j]? = some true := by
  rwa [Array.getElem?_setIfInBounds_ne (Ne.symm hne)] at h
theorem listed_set {listed : Array Bool} {i j : Nat} (h : listed[j]? = some true) : (listed.setIfInBounds i true)[j]? = some true := by
  rcases Nat.decEq j i with hne | rfl
  · rwa [Array.getElem?_setIfInBounds_ne (Ne.symm hne)]
  · have : j < listed.size := by
      rcases Nat.lt_or_ge j listed.size with hlt | hge
      · exact hlt
      · rw [Array.getElem?_eq_none hge] at h; cases h
    simp [this]
theorem put_other {a : Act} {d k : Nat} {v : Value} (h : d ≠ k) : (a.put (some d) v).tmps[k]? = a.tmps[k]? := by
  simp [Act.put, Array.getElem?_setIfInBounds_ne h]
theorem put_this {a : Act} {d : Nat} {v : Value} (h : d < a.tmps.size) : (a.put (some d) v).tmps[d]? = some v := by
  simp [Act.put, h]
theorem put_size {a : Act} {d : Option Tmp} {v : Value} : (a.put d v).tmps.size = a.tmps.size := by
  cases d <;> simp [Act.put]
theorem put_defers {a : Act} {d : Option Tmp} {v : Value} : (a.put d v).defers = a.defers := by
  cases d <;> simp [Act.put]
def olds : List Item → List Nat
  | [] => []
  | .old b _ _ :: r => b :: olds r
  | _ :: r => olds r
theorem olds_mem {b : Nat} : ∀ (its : List Item) (j : Nat) (T : TypeId) (cs : Array Value), its[j]? = some (.old b T cs) → b ∈ olds its := by
  intro its
  induction its with
  | nil => intro j T cs h; simp at h
  | cons x l ih =>
    intro j T cs h
    cases j with
    | zero =>
      simp only [List.getElem?_cons_zero, Option.some.injEq] at h
      subst h
      simp [olds]
    | succ j =>
      simp only [List.getElem?_cons_succ] at h
      have := ih j T cs h
      cases x <;> simp [olds, this]
theorem olds_once {b : Nat} : ∀ (its : List Item), (olds its).Nodup → ∀ (i j : Nat) (T T' : TypeId) (cs cs' : Array Value), its[i]? = some (.old b T cs) → its[j]? = some (.old b T' cs') → i = j := by
  intro its
  induction its with
  | nil => intro _ i j T T' cs cs' h; simp at h
  | cons x l ih =>
    intro hn i j T T' cs cs' hi hj
    have hl : (olds l).Nodup := by
      cases x <;> simp only [olds, List.nodup_cons] at hn <;> first | exact hn | exact hn.2
    cases i with
    | zero =>
      cases j with
      | zero => rfl
      | succ j =>
        simp only [List.getElem?_cons_zero, Option.some.injEq] at hi
        subst hi
        simp only [olds, List.nodup_cons] at hn
        exact absurd (olds_mem l j T' cs' (by simpa using hj)) hn.1
    | succ i =>
      cases j with
      | zero =>
        simp only [List.getElem?_cons_zero, Option.some.injEq] at hj
        subst hj
        simp only [olds, List.nodup_cons] at hn
        exact absurd (olds_mem l i T cs (by simpa using hi)) hn.1
      | succ j => rw [ih hl i j T T' cs cs' (by simpa using hi) (by simpa using hj)]
structure Shape (ops : Array Oper) (its : List Item) (n : Nat) : Prop where
  len : its.length = ops.size
  guard : ∀ (i : Nat) (o : Oper) (it : Item), ops[i]? = some o → its[i]? = some it → guardOk ops its o it = true
  back : ∀ (i : Nat) (o : Oper), ops[i]? = some o → ∀ e ∈ o.after, Region.binds .any e = true → e.on < i
  lt : ∀ (i : Nat) (o : Oper) (d : Nat), ops[i]? = some o → o.dst = some d → d < n
  once : ∀ (i j : Nat) (o p : Oper) (d : Nat), ops[i]? = some o → ops[j]? = some p → o.dst = some d → p.dst = some d → i = j
  newDst : ∀ (i : Nat) (o : Oper) (T : TypeId) (z : Array Value), ops[i]? = some o → its[i]? = some (.new T z) → ∃ d, o.dst = some d
  putDst : ∀ (i : Nat) (o : Oper) (k : Nat) (cs : Array Value), ops[i]? = some o → its[i]? = some (.put k cs) → o.dst = none ∧ (∃ e ∈ o.after, Region.binds .any e = true ∧ e.on = k) ∧ ∃ T z, its[k]? = some (.new T z)
  oldDst : ∀ (i : Nat) (o : Oper) (b : Nat) (T : TypeId) (cs : Array Value), ops[i]? = some o → its[i]? = some (.old b T cs) → o.dst = none
  putOnce : ∀ (i j k : Nat) (cs cs' : Array Value), its[i]? = some (.put k cs) → its[j]? = some (.put k cs') → i = j
  oldOnce : ∀ (i j b : Nat) (T T' : TypeId) (cs cs' : Array Value), its[i]? = some (.old b T cs) → its[j]? = some (.old b T' cs') → i = j
theorem Shape.of {ops : Array Oper} {its : List Item} {n : Nat} (h : shape ops its n = true) (hnd : (olds its).Nodup) : Shape ops its n := by
  unfold shape at h
  rw [Bool.and_eq_true, beq_iff_eq, List.all_eq_true] at h
  obtain ⟨hl, ha⟩ := h
  have key : ∀ (i : Nat) (o : Oper) (it : Item), ops[i]? = some o → its[i]? = some it → _ := fun i o it ho hi => by
    have hlt : i < ops.size := by
      rcases Nat.lt_or_ge i ops.size with h | h
      · exact h
      · rw [Array.getElem?_eq_none h] at ho; cases ho
    have := ha i (List.mem_range.2 hlt)
    simp only [ho, hi] at this
    exact this
  have itm : ∀ (i : Nat) (o : Oper), ops[i]? = some o → ∃ it, its[i]? = some it := fun i o ho => by
    have hlt : i < ops.size := by
      rcases Nat.lt_or_ge i ops.size with h | h
      · exact h
      · rw [Array.getElem?_eq_none h] at ho; cases ho
    exact ⟨its[i]'(by omega), List.getElem?_eq_getElem (by omega)⟩
  have opm : ∀ (i : Nat) (it : Item), its[i]? = some it → ∃ o, ops[i]? = some o := fun i it hi => by
    have hlt : i < its.length := by
      rcases Nat.lt_or_ge i its.length with h | h
      · exact h
      · rw [List.getElem?_eq_none h] at hi; cases hi
    exact ⟨ops[i]'(by omega), Array.getElem?_eq_getElem (by omega)⟩
  have pair : ∀ (i j : Nat) (o p : Oper) (it jt : Item), ops[i]? = some o → its[i]? = some it → ops[j]? = some p → its[j]? = some jt → i ≠ j →
      ((o.dst.isNone || o.dst != p.dst) && (match it, jt with
            | .put k _, .put k' _ => k != k'
            | _, _ => true)) = true := fun i j o p it jt ho hi hp hj hne => by
    have h1 := key i o it ho hi
    rw [Bool.and_eq_true, List.all_eq_true] at h1
    have hlt : j < ops.size := by
      rcases Nat.lt_or_ge j ops.size with h | h
      · exact h
      · rw [Array.getElem?_eq_none h] at hp; cases hp
    have h2 := h1.2 j (List.mem_range.2 hlt)
    rw [Bool.or_eq_true, beq_iff_eq] at h2
    rcases h2 with h2 | h2
    · exact absurd h2 hne
    · simp only [hp, hj] at h2
      exact h2
  refine ⟨hl, fun i o it ho hi => ?_, fun i o ho e he hbind => ?_, fun i o d ho hd => ?_, fun i j o p d ho hp hd hd' => ?_, fun i o T z ho hi => ?_, fun i o k cs ho hi => ?_, fun i o b T cs ho hi => ?_, fun i j k cs cs' hi hj => ?_, fun i j b T T' cs cs' hi hj => ?_⟩
  · have := key i o it ho hi
    simp only [Bool.and_eq_true] at this
    exact this.1.1.1.1
  · obtain ⟨it, hi⟩ := itm i o ho
    have := key i o it ho hi
    simp only [Bool.and_eq_true] at this
    have h2 := this.1.1.1.2
    rw [Array.all_eq_true'] at h2
    have h3 := h2 e he
    rw [hbind] at h3
    simpa using h3
  · obtain ⟨it, hi⟩ := itm i o ho
    have := key i o it ho hi
    simp only [Bool.and_eq_true, hd, decide_eq_true_eq] at this
    exact this.1.2
  · obtain ⟨it, hi⟩ := itm i o ho
    obtain ⟨jt, hj⟩ := itm j p hp
    rcases Nat.decEq i j with hne | he
    · have := pair i j o p it jt ho hi hp hj hne
      simp [hd, hd'] at this
    · exact he
  · have := key i o _ ho hi
    simp only [Bool.and_eq_true] at this
    exact Option.isSome_iff_exists.1 this.1.1.2
  · have := key i o _ ho hi
    simp only [Bool.and_eq_true, Option.isNone_iff_eq_none] at this
    obtain ⟨⟨⟨_, ⟨h1, h2⟩, h3⟩, _⟩, _⟩ := this
    refine ⟨h1, ?_, ?_⟩
    · rw [Array.any_eq_true'] at h2
      obtain ⟨e, he, h2⟩ := h2
      rw [Bool.and_eq_true, beq_iff_eq] at h2
      exact ⟨e, he, h2.1, h2.2⟩
    · cases hk : its[k]? with
      | none => simp [hk] at h3
      | some it => cases it <;> simp [hk] at h3; exact ⟨_, _, rfl⟩
  · have := key i o _ ho hi
    simp only [Bool.and_eq_true, Option.isNone_iff_eq_none] at this
    exact this.1.1.2
  · obtain ⟨o, ho⟩ := opm i _ hi
    obtain ⟨p, hp⟩ := opm j _ hj
    rcases Nat.decEq i j with hne | he
    · have := pair i j o p _ _ ho hi hp hj hne
      simp at this
    · exact he
  · exact olds_once its hnd i j T T' cs cs' hi hj
theorem itm_lt {ops : Array Oper} {i : Nat} {o : Oper} (h : ops[i]? = some o) : i < ops.size := by
  rcases Nat.lt_or_ge i ops.size with hlt | hge
  · exact hlt
  · rw [Array.getElem?_eq_none hge] at h; cases h
theorem ready_spec {ops : Array Oper} {listed : Array Bool} {i : Nat} (hlen : listed.size = ops.size) (h : i ∈ Region.ready .any ops listed) :
    ∃ o, ops[i]? = some o ∧ listed[i]? = some false ∧ ∀ e ∈ o.after, Region.binds .any e = true → listed[e.on]? = some true := by
  unfold Region.ready at h
  rw [List.mem_filter, List.mem_range, Bool.and_eq_true] at h
  obtain ⟨hlt, hl, ha⟩ := h
  have ho : ops[i]? = some (ops[i]'hlt) := Array.getElem?_eq_getElem hlt
  refine ⟨_, ho, ?_, fun e he hb => ?_⟩
  · have hl2 : i < listed.size := by omega
    rw [Array.getElem?_eq_getElem hl2]
    simp [Array.getD, hl2] at hl
    rw [hl]
  · rw [ho] at ha
    simp only [Option.map_some, Option.getD_some, Array.all_eq_true'] at ha
    have := ha e he
    rw [hb] at this
    simp [Array.getD] at this
    obtain ⟨h1, h2⟩ := this
    rw [Array.getElem?_eq_getElem h1, h2]
theorem Inv.env {ops : Array Oper} {its : List Item} {a0 : Act} {w0 : World} {β : Nat → Nat} {listed : Array Bool} {a : Act} {w : World} {n : Nat} (sh : Shape ops its n) (I : Inv ops its a0 w0 β listed a w)
    {o : Oper} (hr : ∀ e ∈ o.after, Region.binds .any e = true → listed[e.on]? = some true) : Env ops its a0 o a := by
  intro s v hk
  unfold known at hk
  split at hk
  · rename_i hf
    rw [I.rest s (fun i p hp hl hd => ?_)]
    · exact hk
    · rw [List.find?_eq_none] at hf
      have := hf i (List.mem_range.2 (itm_lt hp))
      simp [hp, hd] at this
  · rename_i j hf
    have h1 := List.find?_some hf
    rw [beq_iff_eq, Option.bind_eq_some_iff] at h1
    obtain ⟨p, hp, hd⟩ := h1
    split at hk
    · rename_i hany
      rw [List.any_eq_true] at hany
      obtain ⟨e, he, hb⟩ := hany
      rw [Array.mem_toList_iff] at he
      rw [Bool.and_eq_true, beq_iff_eq] at hb
      have hl := hr e he hb.1
      rw [hb.2] at hl
      split at hk
      · rename_i v' hv
        rw [I.done j p _ s hp hv hl hd]
        exact hk
      · cases hk
    · cases hk
theorem below_kept {blk : Nat → Bool} {w0 w w' : World} (k : Kept blk w0 w) (h : Below w.heap.size w w') : Kept blk w0 w' :=
  ⟨h.os.trans k.os, h.tape.trans k.tape, h.output.trans k.output, Nat.le_trans k.size h.size, fun b hb ho => (h.block b (Nat.lt_of_lt_of_le hb k.size)).trans (k.block b hb ho)⟩
section
variable {P : Program} {Q : Exit → Act → World → Prop} {ops : Array Oper} {its : List Item} {a0 : Act} {w0 : World} {β : Nat → Nat} {listed : Array Bool} {a : Act} {w : World}
theorem heap_lt {w : World} {b : Nat} {x : Obj} (h : w.heap[b]? = some x) : b < w.heap.size := by
  rcases Nat.lt_or_ge b w.heap.size with hlt | hge
  · exact hlt
  · rw [Array.getElem?_eq_none hge] at h; cases h
theorem Inv.frameDone (sh : Shape ops its a0.tmps.size) (I : Inv ops its a0 w0 β listed a w) {i : Nat} {o : Oper} {it : Item} (ho : ops[i]? = some o) (hi : its[i]? = some it) (hlf : listed[i]? = some false) {β' : Nat → Nat}
    (hβ : ∀ k, k ≠ i → β' k = β k) {v : Value} (hv : ∀ d, o.dst = some d → v = it.value β' i) :
    ∀ (j : Nat) (p : Oper) (jt : Item) (d : Nat), ops[j]? = some p → its[j]? = some jt → (listed.setIfInBounds i true)[j]? = some true → p.dst = some d → (a.put o.dst v).tmps[d]? = some (jt.value β' j) := by
  intro j p jt d hp hj hl hd
  rcases Nat.decEq j i with hne | rfl
  · have hl' := lookL hl hne
    have h1 := I.done j p jt d hp hj hl' hd
    have e1 : jt.value β' j = jt.value β j := by cases jt <;> simp [Item.value, hβ j hne]
    rw [e1, ← h1]
    cases hod : o.dst with
    | none => rfl
    | some d' =>
      refine put_other (fun e => hne ?_)
      subst e
      exact sh.once j i p o d' hp ho hd hod
  · rw [ho] at hp
    cases hp
    rw [hi] at hj
    cases hj
    rw [hd, put_this (by rw [I.tsize]; exact sh.lt j o d ho hd)]
    exact congrArg some (hv d hd)
theorem Inv.frameRest (I : Inv ops its a0 w0 β listed a w) {i : Nat} {o : Oper} (ho : ops[i]? = some o) (hlt : i < listed.size) {v : Value} :
    ∀ k, (∀ (j : Nat) (p : Oper), ops[j]? = some p → (listed.setIfInBounds i true)[j]? = some true → p.dst ≠ some k) → (a.put o.dst v).tmps[k]? = a0.tmps[k]? := by
  intro k hk
  have h1 : o.dst ≠ some k := hk i o ho (by simp [hlt])
  have h2 : a.tmps[k]? = a0.tmps[k]? := I.rest k (fun j p hp hl => hk j p hp (by
    rcases Nat.decEq j i with hne | rfl
    · rwa [Array.getElem?_setIfInBounds_ne (Ne.symm hne)]
    · simp [hlt]))
  cases hod : o.dst with
  | none => simpa [Act.put] using h2
  | some d => rw [put_other (fun e => h1 (by rw [hod, e])), h2]
theorem lookF {listed : Array Bool} {i j : Nat} (h : (listed.setIfInBounds i true)[j]? = some false) : j ≠ i ∧ listed[j]? = some false := by
  rcases Nat.decEq j i with hne | rfl
  · exact ⟨hne, by rwa [Array.getElem?_setIfInBounds_ne (Ne.symm hne)] at h⟩
  · rw [Array.getElem?_setIfInBounds_self] at h
    split at h <;> cases h
theorem mem_lt {i : Nat} {it : Item} (h : its[i]? = some it) : i < its.length := by
  rcases Nat.lt_or_ge i its.length with hlt | hge
  · exact hlt
  · rw [List.getElem?_eq_none hge] at h; cases h
theorem isOld_mem {b : Nat} {i k : Nat} {T : TypeId} {cs : Array Value} (h : its[i]? = some (.old b T cs)) (hw : waitsFor ops i k = false) : isOld ops its k b = true := by
  unfold isOld
  rw [List.any_eq_true]
  exact ⟨i, List.mem_range.2 (mem_lt h), by simp [h, hw]⟩
theorem waits_end (sh : Shape ops its a0.tmps.size) (j : Nat) : waitsFor ops j ops.size = false := by
  unfold waitsFor
  split
  · rename_i o ho
    rw [List.any_eq_false]
    intro e he
    rw [Array.mem_toList_iff] at he
    have h1 := sh.back j o ho e he
    have h2 := itm_lt ho
    cases hb : Region.binds .any e with
    | false => simp
    | true =>
      have h3 := h1 hb
      have : e.on ≠ ops.size := by omega
      simp [this]
  · rfl
theorem Inv.keptAt (sh : Shape ops its a0.tmps.size) (I : Inv ops its a0 w0 β listed a w) {i : Nat} (hlf : listed[i]? = some false) : Kept (isOld ops its i) w0 w := by
  refine ⟨I.kept.os, I.kept.tape, I.kept.output, I.kept.size, fun b hb ho => ?_⟩
  by_cases hold : isOld ops its ops.size b = false
  · exact I.kept.block b hb hold
  · rw [Bool.not_eq_false] at hold
    unfold isOld at hold
    rw [List.any_eq_true] at hold
    obtain ⟨j, hj, hm⟩ := hold
    rw [List.mem_range] at hj
    split at hm
    · rename_i b' T cs hjt
      rw [Bool.and_eq_true, beq_iff_eq] at hm
      obtain ⟨rfl, _⟩ := hm
      have hw : waitsFor ops j i = true := by
        rcases hwt : waitsFor ops j i with _ | _
        · rw [isOld_mem hjt hwt] at ho; cases ho
        · rfl
      unfold waitsFor at hw
      split at hw
      · rename_i o hoj
        rw [List.any_eq_true] at hw
        obtain ⟨e, he, hb2⟩ := hw
        rw [Array.mem_toList_iff] at he
        rw [Bool.and_eq_true, beq_iff_eq] at hb2
        have hlj : listed[j]? = some (listed[j]'(by rw [I.len, ← sh.len]; exact hj)) := Array.getElem?_eq_getElem _
        cases hv : listed[j]'(by rw [I.len, ← sh.len]; exact hj) with
        | true =>
          rw [hv] at hlj
          have := I.closed j o hoj hlj e he hb2.1
          rw [hb2.2, hlf] at this
          cases this
        | false =>
          rw [hv] at hlj
          exact I.waits j b' T cs hjt hlj
      · cases hw
    · cases hm
theorem Inv.closedSet (I : Inv ops its a0 w0 β listed a w) {i : Nat} {o : Oper} (ho : ops[i]? = some o) (haft : ∀ e ∈ o.after, Region.binds .any e = true → listed[e.on]? = some true) :
    ∀ (j : Nat) (p : Oper), ops[j]? = some p → (listed.setIfInBounds i true)[j]? = some true → ∀ e ∈ p.after, Region.binds .any e = true → (listed.setIfInBounds i true)[e.on]? = some true := by
  intro j p hp hl e he hb
  rcases Nat.decEq j i with hne | rfl
  · exact listed_set (I.closed j p hp (lookL hl hne) e he hb)
  · rw [ho] at hp
    cases hp
    exact listed_set (haft e he hb)
theorem Inv.val (sh : Shape ops its a0.tmps.size) (I : Inv ops its a0 w0 β listed a w) {i : Nat} {o : Oper} {v : Value} (ho : ops[i]? = some o) (hi : its[i]? = some (.val v)) (hlf : listed[i]? = some false) {w' : World} (hb : Below w.heap.size w w') (haft : ∀ e ∈ o.after, Region.binds .any e = true → listed[e.on]? = some true)
    (hold : ∀ (j b : Nat) (T : TypeId) (cs : Array Value), its[j]? = some (.old b T cs) → b < w0.heap.size) :
    Inv ops its a0 w0 β (listed.setIfInBounds i true) (a.put o.dst v) w' := by
  have hlt : i < listed.size := by rw [I.len]; exact itm_lt ho
  refine ⟨by simpa using I.len, by rw [put_defers]; exact I.defers, by rw [put_size]; exact I.tsize, I.frameDone sh ho hi hlf (fun _ _ => rfl) (fun _ _ => rfl), I.frameRest ho hlt, below_kept I.kept hb, I.closedSet ho haft, ?_, ?_, ?_, ?_, ?_, ?_⟩
  · intro j T z hj hl
    have hne : j ≠ i := by rintro rfl; rw [hi] at hj; cases hj
    obtain ⟨h1, h2, cs, h3, h4⟩ := I.news j T z hj (lookL hl hne)
    exact ⟨h1, Nat.lt_of_lt_of_le h2 hb.size, cs, (hb.block _ h2).trans h3, h4⟩
  · intro j k T T' z z' hj hk hl hl' hne
    have h1 : j ≠ i := by rintro rfl; rw [hi] at hj; cases hj
    have h2 : k ≠ i := by rintro rfl; rw [hi] at hk; cases hk
    exact I.apart j k T T' z z' hj hk (lookL hl h1) (lookL hl' h2) hne
  · intro j k cs T z hj hk hl hl'
    have h1 : j ≠ i := by rintro rfl; rw [hi] at hj; cases hj
    have h2 : k ≠ i := by rintro rfl; rw [hi] at hk; cases hk
    have h3 := I.puts j k cs T z hj hk (lookL hl h1) (lookL hl' h2)
    exact (hb.block _ (heap_lt h3)).trans h3
  · intro j b T cs hj hl
    have h1 : j ≠ i := by rintro rfl; rw [hi] at hj; cases hj
    have h3 := I.olds j b T cs hj (lookL hl h1)
    exact (hb.block _ (heap_lt h3)).trans h3
  · intro j k cs hj hl
    have h1 : j ≠ i := by rintro rfl; rw [hi] at hj; cases hj
    exact listed_set (I.behind j k cs hj (lookL hl h1))
  · intro j b T cs hj hl
    obtain ⟨h1, h2⟩ := lookF hl
    exact (hb.block _ (Nat.lt_of_lt_of_le (hold j b T cs hj) I.kept.size)).trans (I.waits j b T cs hj h2)
theorem Inv.skip_ (sh : Shape ops its a0.tmps.size) (I : Inv ops its a0 w0 β listed a w) {i : Nat} {o : Oper} (ho : ops[i]? = some o) (hi : its[i]? = some .skip) (hlf : listed[i]? = some false) (haft : ∀ e ∈ o.after, Region.binds .any e = true → listed[e.on]? = some true)
    (hold : ∀ (j b : Nat) (T : TypeId) (cs : Array Value), its[j]? = some (.old b T cs) → b < w0.heap.size) :
    Inv ops its a0 w0 β (listed.setIfInBounds i true) (a.put o.dst undef) w := by
  have hb : Below w.heap.size w w := Below.refl _ _
  have hlt : i < listed.size := by rw [I.len]; exact itm_lt ho
  refine ⟨by simpa using I.len, by rw [put_defers]; exact I.defers, by rw [put_size]; exact I.tsize, I.frameDone sh ho hi hlf (fun _ _ => rfl) (fun _ _ => rfl), I.frameRest ho hlt, below_kept I.kept hb, I.closedSet ho haft, ?_, ?_, ?_, ?_, ?_, ?_⟩
  · intro j T z hj hl
    have hne : j ≠ i := by rintro rfl; rw [hi] at hj; cases hj
    obtain ⟨h1, h2, cs, h3, h4⟩ := I.news j T z hj (lookL hl hne)
    exact ⟨h1, Nat.lt_of_lt_of_le h2 hb.size, cs, (hb.block _ h2).trans h3, h4⟩
  · intro j k T T' z z' hj hk hl hl' hne
    have h1 : j ≠ i := by rintro rfl; rw [hi] at hj; cases hj
    have h2 : k ≠ i := by rintro rfl; rw [hi] at hk; cases hk
    exact I.apart j k T T' z z' hj hk (lookL hl h1) (lookL hl' h2) hne
  · intro j k cs T z hj hk hl hl'
    have h1 : j ≠ i := by rintro rfl; rw [hi] at hj; cases hj
    have h2 : k ≠ i := by rintro rfl; rw [hi] at hk; cases hk
    have h3 := I.puts j k cs T z hj hk (lookL hl h1) (lookL hl' h2)
    exact (hb.block _ (heap_lt h3)).trans h3
  · intro j b T cs hj hl
    have h1 : j ≠ i := by rintro rfl; rw [hi] at hj; cases hj
    have h3 := I.olds j b T cs hj (lookL hl h1)
    exact (hb.block _ (heap_lt h3)).trans h3
  · intro j k cs hj hl
    have h1 : j ≠ i := by rintro rfl; rw [hi] at hj; cases hj
    exact listed_set (I.behind j k cs hj (lookL hl h1))
  · intro j b T cs hj hl
    obtain ⟨h1, h2⟩ := lookF hl
    exact (hb.block _ (Nat.lt_of_lt_of_le (hold j b T cs hj) I.kept.size)).trans (I.waits j b T cs hj h2)
theorem Inv.new_ (sh : Shape ops its a0.tmps.size) (I : Inv ops its a0 w0 β listed a w) {i : Nat} {o : Oper} {T : TypeId} {z : Array Value} (ho : ops[i]? = some o) (hi : its[i]? = some (.new T z)) (hlf : listed[i]? = some false) (haft : ∀ e ∈ o.after, Region.binds .any e = true → listed[e.on]? = some true)
    (hold : ∀ (j b : Nat) (T : TypeId) (cs : Array Value), its[j]? = some (.old b T cs) → b < w0.heap.size) :
    Inv ops its a0 w0 (fun k => if k = i then w.heap.size else β k) (listed.setIfInBounds i true) (a.put o.dst (.pointer (some ⟨w.heap.size, 0, none⟩))) (w.alloc (.cells z T)) := by
  have hlt : i < listed.size := by rw [I.len]; exact itm_lt ho
  have hb : Below w.heap.size w (w.alloc (.cells z T)) := (Below.refl _ _).alloc (Nat.le_refl _) _
  have hne' : ∀ k, k ≠ i → (if k = i then w.heap.size else β k) = β k := fun k hk => if_neg hk
  refine ⟨by simpa using I.len, by rw [put_defers]; exact I.defers, by rw [put_size]; exact I.tsize, I.frameDone sh ho hi hlf hne' (fun _ _ => by simp [Item.value]), I.frameRest ho hlt, below_kept I.kept hb, I.closedSet ho haft, ?_, ?_, ?_, ?_, ?_, ?_⟩
  · intro j T' z' hj hl
    show _ ≤ (if j = i then w.heap.size else β j) ∧ (if j = i then w.heap.size else β j) < _ ∧ ∃ cs, _
    rcases Nat.decEq j i with hne | rfl
    · rw [if_neg hne]
      obtain ⟨h1, h2, cs, h3, h4⟩ := I.news j T' z' hj (lookL hl hne)
      exact ⟨h1, Nat.lt_of_lt_of_le h2 hb.size, cs, (hb.block _ h2).trans h3, h4⟩
    · rw [if_pos rfl]
      rw [hi] at hj
      cases hj
      exact ⟨I.kept.size, by simp, z, heap_alloc_new w _, rfl⟩
  · intro j k T1 T2 z1 z2 hj hk hl hl' hne
    show (if j = i then w.heap.size else β j) ≠ (if k = i then w.heap.size else β k)
    rcases Nat.decEq j i with h1 | rfl
    · rw [if_neg h1]
      obtain ⟨_, hj2, _⟩ := I.news j T1 z1 hj (lookL hl h1)
      rcases Nat.decEq k i with h2 | rfl
      · rw [if_neg h2]
        exact I.apart j k T1 T2 z1 z2 hj hk (lookL hl h1) (lookL hl' h2) hne
      · rw [if_pos rfl]; omega
    · rw [if_pos rfl, if_neg (Ne.symm hne)]
      obtain ⟨_, hk2, _⟩ := I.news k T2 z2 hk (lookL hl' (Ne.symm hne))
      omega
  · intro j k cs T1 z1 hj hk hl hl'
    show (w.alloc (.cells z T)).heap[(if k = i then w.heap.size else β k)]? = _
    have h1 : j ≠ i := by rintro rfl; rw [hi] at hj; cases hj
    have hlj := lookL hl h1
    rcases Nat.decEq k i with h2 | rfl
    · rw [if_neg h2]
      have h3 := I.puts j k cs T1 z1 hj hk hlj (lookL hl' h2)
      exact (hb.block _ (heap_lt h3)).trans h3
    · exact absurd (I.behind j k cs hj hlj) (by rw [hlf]; simp)
  · intro j b T1 cs hj hl
    have h1 : j ≠ i := by rintro rfl; rw [hi] at hj; cases hj
    have h3 := I.olds j b T1 cs hj (lookL hl h1)
    exact (hb.block _ (heap_lt h3)).trans h3
  · intro j k cs hj hl
    have h1 : j ≠ i := by rintro rfl; rw [hi] at hj; cases hj
    exact listed_set (I.behind j k cs hj (lookL hl h1))
  · intro j b T1 cs hj hl
    obtain ⟨h1, h2⟩ := lookF hl
    exact (hb.block _ (Nat.lt_of_lt_of_le (hold j b T1 cs hj) I.kept.size)).trans (I.waits j b T1 cs hj h2)
theorem Inv.put_ (sh : Shape ops its a0.tmps.size) (I : Inv ops its a0 w0 β listed a w) {i k : Nat} {o : Oper} {cs : Array Value} {T : TypeId} {z : Array Value} (ho : ops[i]? = some o) (hi : its[i]? = some (.put k cs)) (hk : its[k]? = some (.new T z))
    (hlf : listed[i]? = some false) (hlk : listed[k]? = some true) (hsz : cs.size = z.size) {w' : World} (hr : Rewrites w w' (β k) T cs) (haft : ∀ e ∈ o.after, Region.binds .any e = true → listed[e.on]? = some true)
    (hold : ∀ (j b : Nat) (T : TypeId) (cs : Array Value), its[j]? = some (.old b T cs) → b < w0.heap.size) :
    Inv ops its a0 w0 β (listed.setIfInBounds i true) (a.put o.dst undef) w' := by
  have hlt : i < listed.size := by rw [I.len]; exact itm_lt ho
  obtain ⟨n1, n2, cs0, n3, n4⟩ := I.news k T z hk hlk
  have hd := (sh.putDst i o k cs ho hi).1
  refine ⟨by simpa using I.len, by rw [put_defers]; exact I.defers, by rw [put_size]; exact I.tsize, I.frameDone sh ho hi hlf (fun _ _ => rfl) (fun d h => by rw [hd] at h; cases h), I.frameRest ho hlt,
    ⟨hr.os.trans I.kept.os, hr.tape.trans I.kept.tape, hr.output.trans I.kept.output, by rw [hr.size]; exact I.kept.size, fun b hb hb2 => (hr.block b (by omega)).trans (I.kept.block b hb hb2)⟩, I.closedSet ho haft, ?_, ?_, ?_, ?_, ?_, ?_⟩
  · intro j T' z' hj hl
    have hne : j ≠ i := by rintro rfl; rw [hi] at hj; cases hj
    obtain ⟨h1, h2, c, h3, h4⟩ := I.news j T' z' hj (lookL hl hne)
    refine ⟨h1, by rw [hr.size]; exact h2, ?_⟩
    rcases Nat.decEq j k with hjk | rfl
    · exact ⟨c, (hr.block _ (I.apart j k _ _ _ _ hj hk (lookL hl hne) hlk hjk)).trans h3, h4⟩
    · rw [hk] at hj
      cases hj
      exact ⟨cs, hr.this, hsz⟩
  · intro j l T1 T2 z1 z2 hj hl hlj hll hne
    have h1 : j ≠ i := by rintro rfl; rw [hi] at hj; cases hj
    have h2 : l ≠ i := by rintro rfl; rw [hi] at hl; cases hl
    exact I.apart j l T1 T2 z1 z2 hj hl (lookL hlj h1) (lookL hll h2) hne
  · intro j l c T1 z1 hj hl hlj hll
    have h2 : l ≠ i := by rintro rfl; rw [hi] at hl; cases hl
    have hll' := lookL hll h2
    rcases Nat.decEq j i with h1 | rfl
    · have h3 := I.puts j l c T1 z1 hj hl (lookL hlj h1) hll'
      have hlk' : l ≠ k := by
        rintro rfl
        exact h1 (sh.putOnce j i l c cs hj hi)
      exact (hr.block _ (I.apart l k _ _ _ _ hl hk hll' hlk hlk')).trans h3
    · rw [hi] at hj
      cases hj
      rw [hk] at hl
      cases hl
      exact hr.this
  · intro j b T1 c hj hl
    have h1 : j ≠ i := by rintro rfl; rw [hi] at hj; cases hj
    have h3 := I.olds j b T1 c hj (lookL hl h1)
    have := hold j b T1 c hj
    exact (hr.block _ (by omega)).trans h3
  · intro j l c hj hl
    rcases Nat.decEq j i with h1 | rfl
    · exact listed_set (I.behind j l c hj (lookL hl h1))
    · rw [hi] at hj
      cases hj
      exact listed_set hlk
  · intro j b T1 c hj hl
    obtain ⟨h1, h2⟩ := lookF hl
    have := hold j b T1 c hj
    exact (hr.block _ (by omega)).trans (I.waits j b T1 c hj h2)
theorem Inv.old_ (sh : Shape ops its a0.tmps.size) (I : Inv ops its a0 w0 β listed a w) {i b : Nat} {o : Oper} {cs : Array Value} {T : TypeId} (ho : ops[i]? = some o) (hi : its[i]? = some (.old b T cs))
    (hlf : listed[i]? = some false) {w' : World} (hr : Rewrites w w' b T cs) (haft : ∀ e ∈ o.after, Region.binds .any e = true → listed[e.on]? = some true)
    (hold : ∀ (j b : Nat) (T : TypeId) (cs : Array Value), its[j]? = some (.old b T cs) → b < w0.heap.size) :
    Inv ops its a0 w0 β (listed.setIfInBounds i true) (a.put o.dst undef) w' := by
  have hlt : i < listed.size := by rw [I.len]; exact itm_lt ho
  have hd := sh.oldDst i o b T cs ho hi
  have hbs := hold i b T cs hi
  refine ⟨by simpa using I.len, by rw [put_defers]; exact I.defers, by rw [put_size]; exact I.tsize, I.frameDone sh ho hi hlf (fun _ _ => rfl) (fun d h => by rw [hd] at h; cases h), I.frameRest ho hlt,
    ⟨hr.os.trans I.kept.os, hr.tape.trans I.kept.tape, hr.output.trans I.kept.output, by rw [hr.size]; exact I.kept.size, fun c hc hc2 => (hr.block c (by rintro rfl; rw [isOld_mem hi (waits_end sh i)] at hc2; cases hc2)).trans (I.kept.block c hc hc2)⟩, I.closedSet ho haft, ?_, ?_, ?_, ?_, ?_, ?_⟩
  · intro j T' z' hj hl
    have hne : j ≠ i := by rintro rfl; rw [hi] at hj; cases hj
    obtain ⟨h1, h2, c, h3, h4⟩ := I.news j T' z' hj (lookL hl hne)
    exact ⟨h1, by rw [hr.size]; exact h2, c, (hr.block _ (by omega)).trans h3, h4⟩
  · intro j l T1 T2 z1 z2 hj hl hlj hll hne
    have h1 : j ≠ i := by rintro rfl; rw [hi] at hj; cases hj
    have h2 : l ≠ i := by rintro rfl; rw [hi] at hl; cases hl
    exact I.apart j l T1 T2 z1 z2 hj hl (lookL hlj h1) (lookL hll h2) hne
  · intro j l c T1 z1 hj hl hlj hll
    have h1 : j ≠ i := by rintro rfl; rw [hi] at hj; cases hj
    have h2 : l ≠ i := by rintro rfl; rw [hi] at hl; cases hl
    have h3 := I.puts j l c T1 z1 hj hl (lookL hlj h1) (lookL hll h2)
    obtain ⟨h4, _, _⟩ := I.news l T1 z1 hl (lookL hll h2)
    exact (hr.block _ (by omega)).trans h3
  · intro j c T1 cs1 hj hl
    rcases Nat.decEq j i with h1 | rfl
    · have h3 := I.olds j c T1 cs1 hj (lookL hl h1)
      refine (hr.block _ ?_).trans h3
      rintro rfl
      exact h1 (sh.oldOnce j i c T1 T cs1 cs hj hi)
    · rw [hi] at hj
      cases hj
      exact hr.this
  · intro j l c hj hl
    have h1 : j ≠ i := by rintro rfl; rw [hi] at hj; cases hj
    exact listed_set (I.behind j l c hj (lookL hl h1))
  · intro j c T1 cs1 hj hl
    obtain ⟨h1, h2⟩ := lookF hl
    refine (hr.block _ ?_).trans (I.waits j c T1 cs1 hj h2)
    rintro rfl
    exact h1 (sh.oldOnce j i c T1 T cs1 cs hj hi)
structure Fin (ops : Array Oper) (its : List Item) (w0 : World) (β : Nat → Nat) (w : World) : Prop where
  kept : Kept (isOld ops its ops.size) w0 w
  news : ∀ (i : Nat) (T : TypeId) (z : Array Value), its[i]? = some (.new T z) → w0.heap.size ≤ β i ∧ β i < w.heap.size ∧ ∃ cs, w.heap[β i]? = some (.cells cs T (0, 0)) ∧ cs.size = z.size
  apart : ∀ (i j : Nat) (T T' : TypeId) (z z' : Array Value), its[i]? = some (.new T z) → its[j]? = some (.new T' z') → i ≠ j → β i ≠ β j
  puts : ∀ (i k : Nat) (cs : Array Value) (T : TypeId) (z : Array Value), its[i]? = some (.put k cs) → its[k]? = some (.new T z) → w.heap[β k]? = some (.cells cs T (0, 0))
  olds : ∀ (i b : Nat) (T : TypeId) (cs : Array Value), its[i]? = some (.old b T cs) → w.heap[b]? = some (.cells cs T (0, 0))
def finAct (ops : Array Oper) (its : List Item) (β : Nat → Nat) : Nat → Act → Act
  | 0, a => a
  | m + 1, a => match ops[m]?, its[m]? with
    | some o, some it => match o.dst with
      | some d => (finAct ops its β m a).put (some d) (it.value β m)
      | none => finAct ops its β m a
    | _, _ => finAct ops its β m a
theorem finAct_size (m : Nat) : (finAct ops its β m a).tmps.size = a.tmps.size ∧ (finAct ops its β m a).defers = a.defers := by
  induction m with
  | zero => exact ⟨rfl, rfl⟩
  | succ m ih =>
    unfold finAct
    split
    · split
      · exact ⟨by rw [put_size]; exact ih.1, by rw [put_defers]; exact ih.2⟩
      · exact ih
    · exact ih
theorem finAct_rest (m k : Nat) (h : ∀ (i : Nat) (o : Oper), i < m → ops[i]? = some o → o.dst ≠ some k) : (finAct ops its β m a).tmps[k]? = a.tmps[k]? := by
  induction m with
  | zero => rfl
  | succ m ih =>
    have ih' := ih (fun i o hi => h i o (by omega))
    unfold finAct
    split
    · rename_i o it ho hi
      split
      · rename_i d hd
        rw [put_other (fun e => h m o (by omega) ho (by rw [hd, e]))]
        exact ih'
      · exact ih'
    · exact ih'
theorem finAct_done (sh : Shape ops its a.tmps.size) (m : Nat) {i : Nat} {o : Oper} {it : Item} {d : Nat} (him : i < m) (ho : ops[i]? = some o) (hi : its[i]? = some it) (hd : o.dst = some d) :
    (finAct ops its β m a).tmps[d]? = some (it.value β i) := by
  induction m with
  | zero => omega
  | succ m ih =>
    unfold finAct
    rcases Nat.decEq i m with hne | rfl
    · have ih' := ih (by omega)
      split
      · rename_i p jt hp hj
        split
        · rename_i d' hd'
          rw [put_other (fun e => hne (by subst e; exact sh.once i m o p d' ho hp hd hd'))]
          exact ih'
        · exact ih'
      · exact ih'
    · rw [ho, hi]
      simp only [hd]
      exact put_this (by rw [(finAct_size i).1]; exact sh.lt i o d ho hd)
theorem Inv.fin_act (sh : Shape ops its a0.tmps.size) (I : Inv ops its a0 w0 β listed a w) (hall : ∀ i, i < ops.size → listed[i]? = some true) : a = finAct ops its β ops.size a0 := by
  obtain ⟨h1, h2⟩ := finAct_size (ops := ops) (its := its) (β := β) (a := a0) ops.size
  have ht : a.tmps = (finAct ops its β ops.size a0).tmps := by
    apply Array.ext_getElem?
    intro k
    by_cases hk : ∃ (i : Nat) (o : Oper), ops[i]? = some o ∧ o.dst = some k
    · obtain ⟨i, o, ho, hd⟩ := hk
      have hlt := itm_lt ho
      have hi : its[i]? = some (its[i]'(by rw [sh.len]; exact hlt)) := List.getElem?_eq_getElem _
      rw [I.done i o _ k ho hi (hall i hlt) hd, finAct_done sh ops.size hlt ho hi hd]
    · rw [I.rest k (fun i o ho _ hd => hk ⟨i, o, ho, hd⟩), finAct_rest ops.size k (fun i o _ ho hd => hk ⟨i, o, ho, hd⟩)]
  cases a with
  | mk t d =>
    cases hf : finAct ops its β ops.size a0 with
    | mk t' d' =>
      rw [hf] at ht h2
      simp only at ht h2
      have := I.defers
      simp only at this
      rw [ht, this, h2]
theorem Inv.fin_ (I : Inv ops its a0 w0 β listed a w) (hlen : its.length = ops.size) (hall : ∀ i, i < ops.size → listed[i]? = some true) : Fin ops its w0 β w := by
  have lt : ∀ (i : Nat) (it : Item), its[i]? = some it → listed[i]? = some true := fun i it h => hall i (by
    rcases Nat.lt_or_ge i its.length with h' | h'
    · omega
    · rw [List.getElem?_eq_none h'] at h; cases h)
  exact ⟨I.kept, fun i T z h => I.news i T z h (lt _ _ h), fun i j T T' z z' h h' hne => I.apart i j T T' z z' h h' (lt _ _ h) (lt _ _ h') hne,
    fun i k cs T z h h' => I.puts i k cs T z h h' (lt _ _ h) (lt _ _ h'), fun i b T cs h => I.olds i b T cs h (lt _ _ h)⟩
theorem Inv.wanted_ (I : Inv ops its a0 w0 β listed a w) {o : Oper} {it : Item} (haft : ∀ e ∈ o.after, Region.binds .any e = true → listed[e.on]? = some true) (hg : guardOk ops its o it = true) :
    Region.wanted o (yielded ops a.tmps) = !isSkip it := by
  unfold guardOk at hg
  unfold Region.wanted
  split at hg
  · rename_i hn
    rw [hn]
    simpa using hg.symm
  · rename_i j want hn
    rw [hn]
    rw [Bool.and_eq_true, List.any_eq_true] at hg
    obtain ⟨⟨e, he, hb⟩, hm⟩ := hg
    rw [Array.mem_toList_iff] at he
    rw [Bool.and_eq_true, beq_iff_eq] at hb
    have hl := haft e he hb.1
    rw [hb.2] at hl
    split at hm
    · rename_i q b hp hj
      rw [Bool.and_eq_true] at hm
      obtain ⟨hd, hx⟩ := hm
      obtain ⟨d, hd⟩ := Option.isSome_iff_exists.1 hd
      have hv := I.done j q _ d hp hj hl hd
      have hy : yielded ops a.tmps j = some b := by
        unfold yielded
        rw [hp]
        simp only [Option.bind_some, hd, hv, Item.value]
      simp only [hy]
      cases b <;> cases want <;> cases hs : isSkip it <;> simp_all
    · cases hm
def left (listed : Array Bool) : Nat := listed.toList.count false
theorem left_set {i : Nat} (h : listed[i]? = some false) : left (listed.setIfInBounds i true) + 1 = left listed := by
  unfold left
  rw [Array.toList_setIfInBounds]
  obtain ⟨l⟩ := listed
  simp only [List.getElem?_toArray] at h
  show List.count false (l.set i true) + 1 = List.count false l
  induction l generalizing i with
  | nil => simp at h
  | cons x l ih =>
    cases i with
    | zero =>
      simp only [List.getElem?_cons_zero, Option.some.injEq] at h
      subst h
      simp
    | succ i =>
      simp only [List.getElem?_cons_succ] at h
      have := ih h
      simp only [List.set_cons_succ, List.count_cons]
      omega
theorem all_of_ready (sh : Shape ops its a0.tmps.size) (hlen : listed.size = ops.size) (h : Region.ready .any ops listed = []) : ∀ i, i < ops.size → listed[i]? = some true := by
  intro i
  induction i using Nat.strongRecOn with
  | ind i ih =>
    intro hlt
    have hl : listed[i]? = some (listed[i]'(by omega)) := Array.getElem?_eq_getElem _
    cases hv : listed[i]'(by omega) with
    | true => rw [hl, hv]
    | false =>
      exfalso
      have ho : ops[i]? = some (ops[i]'hlt) := Array.getElem?_eq_getElem hlt
      have hmem : i ∈ Region.ready .any ops listed := by
        unfold Region.ready
        rw [List.mem_filter, List.mem_range, Bool.and_eq_true]
        refine ⟨hlt, ?_, ?_⟩
        · have hl2 : i < listed.size := by omega
          simp [Array.getD, hl2, hv]
        · rw [ho]
          simp only [Option.map_some, Option.getD_some, Array.all_eq_true']
          intro e he
          cases hbind : Region.binds .any e with
          | false => simp
          | true =>
            have hb := sh.back i _ ho e he hbind
            have h3 := ih e.on hb (by omega)
            have hl3 : e.on < listed.size := by omega
            rw [Array.getElem?_eq_getElem hl3] at h3
            simp [Array.getD, hl3, Option.some.inj h3]
      rw [h] at hmem
      cases hmem
theorem wpAny_inv (sh : Shape ops its a0.tmps.size)
    (hold : ∀ (j b : Nat) (T : TypeId) (cs : Array Value), its[j]? = some (.old b T cs) → ∃ cs0, w0.heap[b]? = some (.cells cs0 T (0, 0)) ∧ cs0.size = cs.size)
    (hput : ∀ (i k : Nat) (cs : Array Value) (T : TypeId) (z : Array Value), its[i]? = some (.put k cs) → its[k]? = some (.new T z) → cs.size = z.size)
    (hstep : ∀ (i : Nat) (o : Oper) (it : Item), ops[i]? = some o → its[i]? = some it → StepOk P Q ops its a0 w0 i o it)
    (hend : ∀ β w, Fin ops its w0 β w → Q .normal (finAct ops its β ops.size a0) w) :
    ∀ (fuel : Nat) (β : Nat → Nat) (listed : Array Bool) (a : Act) (w : World), Inv ops its a0 w0 β listed a w → left listed ≤ fuel → wpAny P .any ops Q fuel listed a w := by
  have hold' : ∀ (j b : Nat) (T : TypeId) (cs : Array Value), its[j]? = some (.old b T cs) → b < w0.heap.size := fun j b T cs h => by
    obtain ⟨cs0, h1, _⟩ := hold j b T cs h
    exact heap_lt h1
  have done : ∀ (β : Nat → Nat) (listed : Array Bool) (a : Act) (w : World), Inv ops its a0 w0 β listed a w → Region.ready .any ops listed = [] → Q .normal a w := fun β listed a w I hr => by
    have hall := all_of_ready sh I.len hr
    rw [I.fin_act sh hall]
    exact hend β w (I.fin_ sh.len hall)
  intro fuel
  induction fuel with
  | zero =>
    intro β listed a w I hc
    have hr : Region.ready .any ops listed = [] := by
      rcases hrd : Region.ready .any ops listed with _ | ⟨i, l⟩
      · rfl
      · exfalso
        obtain ⟨o, ho, hf, _⟩ := ready_spec I.len (i := i) (by rw [hrd]; exact List.mem_cons_self)
        have := left_set hf
        omega
    exact ⟨hr, done β listed a w I hr⟩
  | succ fuel ih =>
    intro β listed a w I hc
    refine ⟨done β listed a w I, fun i hi => ?_⟩
    obtain ⟨o, ho, hf, haft⟩ := ready_spec I.len hi
    have hlt := itm_lt ho
    have hit : its[i]? = some (its[i]'(by rw [sh.len]; exact hlt)) := List.getElem?_eq_getElem _
    have E := I.env sh haft
    have hstep' := hstep i o _ ho hit
    have hkA := I.keptAt sh hf
    have hcount := left_set hf
    have next : ∀ (β' : Nat → Nat) (a' : Act) (w' : World), Inv ops its a0 w0 β' (listed.setIfInBounds i true) a' w' → wpAny P .any ops Q fuel (listed.setIfInBounds i true) a' w' := fun β' a' w' I' => ih β' _ a' w' I' (by omega)
    unfold wpOp
    rw [ho]
    have hg := sh.guard i o _ ho hit
    generalize its[i]'(by rw [sh.len]; exact hlt) = it at hit hstep' hg
    have hw : Region.wanted o (yielded ops a.tmps) = !isSkip it := I.wanted_ haft hg
    simp only [hw]
    by_cases hs : isSkip it = true
    · rw [hs]
      simp only [Bool.not_true, Bool.false_eq_true, if_false]
      cases it <;> simp only [isSkip, Bool.false_eq_true] at hs
      exact next β _ _ (I.skip_ sh ho hit hf haft hold')
    rw [Bool.not_eq_true] at hs
    rw [hs]
    simp only [Bool.not_false, if_true]
    refine .inl ?_
    cases it with
    | skip => simp [isSkip] at hs
    | val v => exact hstep' a w _ E hkA (fun w' hb => next β _ _ (I.val sh ho hit hf hb haft hold'))
    | new T z => exact hstep' a w _ (next _ _ _ (I.new_ sh ho hit hf haft hold'))
    | put k cs =>
      obtain ⟨hd, ⟨e, he, hb, hek⟩, T, z, hk⟩ := sh.putDst i o k cs ho hit
      have hlk : listed[k]? = some true := by rw [← hek]; exact haft e he hb
      obtain ⟨n1, n2, cs0, n3, n4⟩ := I.news k T z hk hlk
      have hkl : k < ops.size := by
        rcases Nat.lt_or_ge k its.length with h | h
        · rw [← sh.len]; exact h
        · rw [List.getElem?_eq_none h] at hk; cases hk
      have hok : ops[k]? = some (ops[k]'hkl) := Array.getElem?_eq_getElem hkl
      obtain ⟨d, hdk⟩ := sh.newDst k _ T z hok hk
      exact hstep' T z hk a w _ (β k) cs0 d E hkA (by rw [hok]; exact hdk) (I.done k _ _ d hok hk hlk hdk) n3 n4 (fun w' hr => next β _ _ (I.put_ sh ho hit hk hf hlk (hput i k cs T z hit hk) hr haft hold'))
    | old b T cs =>
      obtain ⟨cs0, h1, h2⟩ := hold i b T cs hit
      exact hstep' a w _ cs0 E hkA ((I.waits i b T cs hit hf).trans h1) h2 (fun w' hr => next β _ _ (I.old_ sh ho hit hf hr haft hold'))
theorem inv_start : Inv ops its a0 w0 β (Array.replicate ops.size false) a0 w0 := by
  have no : ∀ i, (Array.replicate ops.size false)[i]? ≠ some true := fun i h => by
    rw [Array.getElem?_replicate] at h
    split at h <;> cases h
  exact ⟨by simp, rfl, rfl, fun i _ _ _ _ _ h => absurd h (no i), fun _ _ => rfl, ⟨rfl, rfl, rfl, Nat.le_refl _, fun _ _ _ => rfl⟩, fun i _ _ h => absurd h (no i), fun i _ _ _ h => absurd h (no i), fun i _ _ _ _ _ _ _ h => absurd h (no i),
    fun i _ _ _ _ _ _ h => absurd h (no i), fun i _ _ _ _ h => absurd h (no i), fun i _ _ _ h => absurd h (no i), fun _ _ _ _ _ _ => rfl⟩
theorem wp_region_grow {id : Nat} {ops : Array Oper} {a0 : Act} {w : World} (its : List Item) (hm : P.follows .mixedOrders = true) (sh : shape ops its a0.tmps.size = true) (hnd : (olds its).Nodup)
    (hold : ∀ (j b : Nat) (T : TypeId) (cs : Array Value), its[j]? = some (.old b T cs) → ∃ cs0, w.drew.heap[b]? = some (.cells cs0 T (0, 0)) ∧ cs0.size = cs.size)
    (hput : ∀ (i k : Nat) (cs : Array Value) (T : TypeId) (z : Array Value), its[i]? = some (.put k cs) → its[k]? = some (.new T z) → cs.size = z.size)
    (hstep : ∀ (i : Nat) (o : Oper) (it : Item), ops[i]? = some o → its[i]? = some it → StepOk P Q ops its a0 w.drew i o it)
    (hend : ∀ β w', Fin ops its w.drew β w' → Q .normal (finAct ops its β ops.size a0) w') : (Code.region id ops true).wp P Q a0 w :=
  wp_region_any hm (wpAny_inv (Shape.of sh hnd) hold hput hstep hend _ (fun _ => 0) _ _ _ inv_start (by simp [left]))
def noOlds (its : List Item) : Bool := its.all fun | .old _ _ _ => false | _ => true
theorem noOlds_spec (h : noOlds its = true) : ∀ (j b : Nat) (T : TypeId) (cs : Array Value), its[j]? ≠ some (.old b T cs) := fun j b T cs hj => by
  unfold noOlds at h
  rw [List.all_eq_true] at h
  have := h _ (List.mem_of_getElem? hj)
  cases this
theorem noOlds_isOld (hno : noOlds its = true) (i b : Nat) : isOld ops its i b = false := by
  unfold isOld
  rw [List.any_eq_false]
  intro j hj
  split
  · rename_i b' T cs h
    exact absurd h (noOlds_spec hno j b' T cs)
  · simp
theorem Kept.cells {i : Nat} (h : Kept (isOld ops its i) w0 w) (hno : noOlds its = true) : (∀ b o, b < w0.heap.size → w.cell? ⟨b, o, none⟩ = w0.cell? ⟨b, o, none⟩) ∧ (∀ b o, b < w0.heap.size → w.frozen? ⟨b, o, none⟩ = w0.frozen? ⟨b, o, none⟩) :=
  ⟨fun b o hb => World.cell?_of_block (w := w0) (h.block b hb (noOlds_isOld hno i b)), fun b o hb => World.frozen?_of_block (w := w0) (h.block b hb (noOlds_isOld hno i b))⟩
theorem cell_blk {b : Nat} {T : TypeId} {cs : Array Value} (h : w.heap[b]? = some (.cells cs T (0, 0))) (i : Nat) : w.cell? ⟨b, i, none⟩ = cs[i]? := cell_of_row w b i cs T (0, 0) h
theorem free_blk {b : Nat} {T : TypeId} {cs : Array Value} (h : w.heap[b]? = some (.cells cs T (0, 0))) (i : Nat) : w.frozen? ⟨b, i, none⟩ = false := by
  simp [World.frozen?, h]
theorem Kept.below {i : Nat} (h : Kept (isOld ops its i) w0 w) (hno : noOlds its = true) : Below w0.heap.size w0 w :=
  ⟨h.os, h.tape, h.output, h.size, fun b hb => h.block b hb (noOlds_isOld hno i b)⟩
end
end Go.Proofs.Yteodlcpcgfjdcaa.R
end
section
namespace Go.Proofs.Yteodlcpcgfjdcaa
open Go.ChangeShapes Go.WideShapes Go.ChangeAt Go.RowKit
def Pts (w : World) (b : Nat) (ps : List (Int × Int)) : Prop :=
  ∀ j, j < ps.length → w.cell? ⟨b, j * 2, none⟩ = some (.int .i64 (ps.getD j (0, 0)).1) ∧ w.cell? ⟨b, j * 2 + 1, none⟩ = some (.int .i64 (ps.getD j (0, 0)).2)
theorem Pts.below {w w' : World} {b B : Nat} {ps : List (Int × Int)} (h : Pts w b ps) (hb : Below B w w') (hB : b < B) : Pts w' b ps := fun j hj => by
  obtain ⟨h1, h2⟩ := h j hj
  exact ⟨(hb.cell (p := ⟨b, j * 2, none⟩) hB).trans h1, (hb.cell (p := ⟨b, j * 2 + 1, none⟩) hB).trans h2⟩
set_option maxHeartbeats 1000000 in
theorem checkAll_any (ps : List (Int × Int)) (b c : Nat) (w : World) (hb : b < w.heap.size) (hn : ps.length ≤ 1000000) (hp : Pts w b ps) :
    Calls Try.prog 59 #[.slice (some ⟨b, 0, none⟩) ps.length c] w fun e w' => e = .returned (.int .i64 (M.chk ps)) ∧ Below w.heap.size w w' := by
  have HP := Lib.hid hp
  clear hp
  go_enter Try.func59, Try.ntmps59
  go_wp2
  generalize hl : ps.length = n at *
  have HL := Lib.hid hl
  clear hl
  go_loopw [7] (fun i wr => ∃ k : Nat, k ≤ n ∧ i = .int .i64 k ∧ M.okAll (ps.take k) = true ∧ Below w.heap.size w wr) (fun i _ => n - (intOf i).toNat)
  case atStart => exact ⟨0, Nat.zero_le _, rfl, rfl, Below.refl _ _⟩
  case round =>
    obtain ⟨k, hk, rfl, hok, hB⟩ := hrel
    have HO := Lib.hid hok
    clear hok
    by_cases hlt : k < n
    · obtain ⟨c1, c2⟩ := (HP.out.below hB hb) k (by have := HL.out; omega)
      have hs := M.okAll_take_succ ps k (by have := HL.out; omega)
      rw [HO.out] at hs
      have HS := Lib.hid hs
      clear hs
      have hzr := hB.size
      generalize (ps.getD k (0, 0)).1 = x at *
      generalize (ps.getD k (0, 0)).2 = y at *
      have fin2 : M.okAll (ps.take (k + 1)) = false → Ending.returned (.int .i64 2) = Ending.returned (.int .i64 (M.chk ps)) := fun h => by
        unfold M.chk
        rw [M.okAll_of_take ps (k + 1) h]
        rfl
      have FIN := Lib.hid fin2
      clear fin2
      cases hx : M.fits x
      · go_wp2_with (go_at_call 69; refine (fits_any _ _).mono ?_; rintro e w' ⟨rfl, rfl⟩)
        go_returns
        exact ⟨FIN.out (by rw [HS.out, hx]; rfl), by go_grown⟩
      · cases hy : M.fits y
        · go_wp2_with (go_at_call 69; refine (fits_any _ _).mono ?_; rintro e w' ⟨rfl, rfl⟩)
          go_returns
          exact ⟨FIN.out (by rw [HS.out, hx, hy]; rfl), by go_grown⟩
        · go_wp2_with (go_at_call 69; refine (fits_any _ _).mono ?_; rintro e w' ⟨rfl, rfl⟩)
          exact ⟨⟨k + 1, by omega, by go_num, by rw [HS.out, hx, hy]; rfl, by go_grown⟩, by simp [intOf]; omega⟩
    · go_wp2
      go_returns
      refine ⟨?_, hB⟩
      have e : k = ps.length := by have := HL.out; omega
      have h := HO.out
      rw [e, List.take_length] at h
      unfold M.chk
      rw [h]
      rfl
theorem checkAll_one (x y : Int) (b c : Nat) (w : World) (hb : b < w.heap.size) (h0 : w.cell? ⟨b, 0, none⟩ = some (.int .i64 x)) (h1 : w.cell? ⟨b, 1, none⟩ = some (.int .i64 y)) :
    Calls Try.prog 59 #[.slice (some ⟨b, 0, none⟩) 1 c] w fun e w' => e = .returned (.int .i64 (M.chk [(x, y)])) ∧ Below w.heap.size w w' :=
  checkAll_any [(x, y)] b c w hb (by simp) (fun j hj => by
    obtain rfl : j = 0 := by simpa using hj
    exact ⟨h0, h1⟩)
theorem checkAll_two (x y u v : Int) (b c : Nat) (w : World) (hb : b < w.heap.size) (h0 : w.cell? ⟨b, 0, none⟩ = some (.int .i64 x)) (h1 : w.cell? ⟨b, 1, none⟩ = some (.int .i64 y)) (h2 : w.cell? ⟨b, 2, none⟩ = some (.int .i64 u)) (h3 : w.cell? ⟨b, 3, none⟩ = some (.int .i64 v)) :
    Calls Try.prog 59 #[.slice (some ⟨b, 0, none⟩) 2 c] w fun e w' => e = .returned (.int .i64 (M.chk [(x, y), (u, v)])) ∧ Below w.heap.size w w' :=
  checkAll_any [(x, y), (u, v)] b c w hb (by simp) (fun j hj => by
    have hj' : j < 2 := hj
    match j, hj' with
    | 0, _ => exact ⟨h0, h1⟩
    | 1, _ => exact ⟨h2, h3⟩)
theorem Check_any (x y : Int) (w : World) :
    Calls Try.prog 40 #[.agg #[.int .i64 x, .int .i64 y]] w fun e w' => e = .returned (.int .i64 (M.chk [(x, y)])) ∧ Below w.heap.size w w' := by
  go_enter Try.func40, Try.ntmps40
  go_wp2_with (go_at_call 59; refine (checkAll_one x y _ _ _ (by go_size) (by go_cell) (by go_cell)).mono ?_; rintro e w1 ⟨rfl, hb1⟩; obtain ⟨hB1, hz1, hc1, hf1⟩ := grow4 (w := w) (by go_grown) hb1; (try simp only [World.size_alloc, World.size_setCell, World.size_drew] at hz1); (try have hy1 := Nat.lt_of_succ_le hz1); (try have hx1 := Nat.lt_of_succ_lt hy1); (try have hw1 := Nat.lt_of_succ_lt hx1); (try have hv1 := Nat.lt_of_succ_lt hw1); (try have ha1 : w.heap.size < w1.heap.size := (by omega)); (try have hi1 : w.heap.size + 1 < w1.heap.size := (by omega)); (try have hj1 : w.heap.size + 1 + 1 < w1.heap.size := (by omega)); (try have hk1 : w.heap.size + 1 + 1 + 1 < w1.heap.size := (by omega)); (try have hl1 : w.heap.size + 1 + 1 + 1 + 1 < w1.heap.size := (by omega)))
  go_returns
  exact ⟨rfl, hB1⟩
end Go.Proofs.Yteodlcpcgfjdcaa
end
section
namespace Go.Proofs.Yteodlcpcgfjdcaa
open Go.ChangeShapes Go.WideShapes Go.ChangeAt Go.RowKit
theorem sq_call (x y u v : Int) (w : World) (h1 : M.In x y) (h2 : M.In u v) :
    Calls Try.prog 70 #[.agg #[.int .i64 x, .int .i64 y], .agg #[.int .i64 u, .int .i64 v]] w fun e w' => e = .returned (.int .i64 (M.sq x y u v)) ∧ Below w.heap.size w w' := by
  unfold M.In at h1 h2
  exact square_any x y u v w (by omega) (by omega) (by omega) (by omega) (by omega) (by omega) (by omega) (by omega)
end Go.Proofs.Yteodlcpcgfjdcaa
end
section
namespace Go.Proofs.Yteodlcpcgfjdcaa
open Go.ChangeShapes Go.WideShapes Go.ChangeAt Go.RowKit
theorem chk2 {x y u v : Int} : (M.chk [(x, y), (u, v)] = 0 ∧ M.In x y ∧ M.In u v) ∨ (M.chk [(x, y), (u, v)] = 2 ∧ ¬ (M.In x y ∧ M.In u v)) := by
  rcases M.chk_cases [(x, y), (u, v)] with ⟨h, k⟩ | ⟨h, p, hp, hn⟩
  · exact .inl ⟨h, k (x, y) (by simp), k (u, v) (by simp)⟩
  · refine .inr ⟨h, fun ⟨a, b⟩ => hn ?_⟩
    simp at hp
    rcases hp with rfl | rfl
    · exact a
    · exact b
theorem Square_ok (x y u v : Int) (w : World) (h1 : M.In x y) (h2 : M.In u v) :
    Calls Try.prog 61 #[.agg #[.int .i64 x, .int .i64 y], .agg #[.int .i64 u, .int .i64 v]] w fun e w' => e = .returned (.tuple #[.int .i64 (M.sq x y u v), .int .i64 0]) ∧ Below w.heap.size w w' := by
  rcases chk2 (x := x) (y := y) (u := u) (v := v) with ⟨hc, _⟩ | ⟨_, hn⟩
  · have H1 := Lib.hid h1
    have H2 := Lib.hid h2
    clear h1 h2
    go_enter Try.func61, Try.ntmps61
    go_wp2_with (first | (go_at_call 59; refine (checkAll_two x y u v _ _ _ (by go_size) (by go_cell) (by go_cell) (by go_cell) (by go_cell)).mono ?_; rintro e w1 ⟨rfl, hb1⟩; obtain ⟨hB1, hz1, hc1, hf1⟩ := grow4 (w := w) (by go_grown) hb1; (try simp only [World.size_alloc, World.size_setCell, World.size_drew] at hz1); (try have hy1 := Nat.lt_of_succ_le hz1); (try have hx1 := Nat.lt_of_succ_lt hy1); (try have hw1 := Nat.lt_of_succ_lt hx1); (try have hv1 := Nat.lt_of_succ_lt hw1); (try have ha1 : w.heap.size < w1.heap.size := (by omega)); (try have hi1 : w.heap.size + 1 < w1.heap.size := (by omega)); (try have hj1 : w.heap.size + 1 + 1 < w1.heap.size := (by omega)); (try have hk1 : w.heap.size + 1 + 1 + 1 < w1.heap.size := (by omega)); (try have hl1 : w.heap.size + 1 + 1 + 1 + 1 < w1.heap.size := (by omega))) | (go_at_call 70; refine (sq_call x y u v _ H1.out H2.out).mono ?_; rintro e w2 ⟨rfl, hb2⟩; obtain ⟨hB2, hz2, hc2, hf2⟩ := grow4 (w := w) (by go_grown) hb2; (try simp only [World.size_alloc, World.size_setCell, World.size_drew] at hz2); (try have hy2 := Nat.lt_of_succ_le hz2); (try have hx2 := Nat.lt_of_succ_lt hy2); (try have hw2 := Nat.lt_of_succ_lt hx2); (try have hv2 := Nat.lt_of_succ_lt hw2); (try have ha2 : w.heap.size < w2.heap.size := (by omega)); (try have hi2 : w.heap.size + 1 < w2.heap.size := (by omega)); (try have hj2 : w.heap.size + 1 + 1 < w2.heap.size := (by omega)); (try have hk2 : w.heap.size + 1 + 1 + 1 < w2.heap.size := (by omega)); (try have hl2 : w.heap.size + 1 + 1 + 1 + 1 < w2.heap.size := (by omega))))
    go_returns
    exact ⟨rfl, hB2⟩
  · exact absurd ⟨h1, h2⟩ hn
end Go.Proofs.Yteodlcpcgfjdcaa
end
section
namespace Go.Proofs.Yteodlcpcgfjdcaa
open Go.ChangeShapes Go.WideShapes Go.ChangeAt Go.RowKit
structure Tab (w : World) : Prop where
  size : 0 < w.heap.size
  c0 : w.cell? ⟨0, 0, none⟩ = some (.int .i64 4096)
  c1 : w.cell? ⟨0, 1, none⟩ = some (.int .i64 0)
  c2 : w.cell? ⟨0, 2, none⟩ = some (.int .i64 3784)
  c3 : w.cell? ⟨0, 3, none⟩ = some (.int .i64 1567)
  c4 : w.cell? ⟨0, 4, none⟩ = some (.int .i64 2896)
  c5 : w.cell? ⟨0, 5, none⟩ = some (.int .i64 2896)
  c6 : w.cell? ⟨0, 6, none⟩ = some (.int .i64 1567)
  c7 : w.cell? ⟨0, 7, none⟩ = some (.int .i64 3784)
theorem Tab.below {B : Nat} {w w' : World} (h : Tab w) (hb : Below B w w') (hB : 0 < B) : Tab w' :=
  ⟨Nat.lt_of_lt_of_le h.size hb.size, (hb.cell (p := ⟨0, 0, none⟩) hB).trans h.c0, (hb.cell (p := ⟨0, 1, none⟩) hB).trans h.c1, (hb.cell (p := ⟨0, 2, none⟩) hB).trans h.c2, (hb.cell (p := ⟨0, 3, none⟩) hB).trans h.c3,
    (hb.cell (p := ⟨0, 4, none⟩) hB).trans h.c4, (hb.cell (p := ⟨0, 5, none⟩) hB).trans h.c5, (hb.cell (p := ⟨0, 6, none⟩) hB).trans h.c6, (hb.cell (p := ⟨0, 7, none⟩) hB).trans h.c7⟩
def pairs : List (Int × Int) := [(4096, 0), (3784, 1567), (2896, 2896), (1567, 3784), (0, 4096), (-1567, 3784), (-2896, 2896), (-3784, 1567), (-4096, 0), (-3784, -1567), (-2896, -2896), (-1567, -3784), (0, -4096), (1567, -3784), (2896, -2896), (3784, -1567)]
def pc (k : Nat) : Int := (pairs.getD k (0, 0)).1
def ps (k : Nat) : Int := (pairs.getD k (0, 0)).2
end Go.Proofs.Yteodlcpcgfjdcaa
end
section
namespace Go.Proofs.Yteodlcpcgfjdcaa
open Go.ChangeShapes Go.WideShapes Go.ChangeAt Go.RowKit
theorem far_any (x y u v : Int) (w : World) (h1 : M.In x y) (h2 : M.In u v) :
    Calls Try.prog 22 #[.agg #[.int .i64 x, .int .i64 y], .agg #[.int .i64 u, .int .i64 v]] w fun e w' => e = .returned (.int .i64 (M.sq x y u v)) ∧ Below w.heap.size w w' := by
  have e : M.sq x y u v = (x - u) * (x - u) + (y - v) * (y - v) := by unfold M.sq; grind
  rw [e]
  clear e
  unfold M.In at h1 h2
  obtain ⟨b1, b2⟩ := M.mul_bd (x - u) (x - u) 33554432 33554432 (by omega) (by omega) (by omega) (by omega)
  obtain ⟨b3, b4⟩ := M.mul_bd (y - v) (y - v) 33554432 33554432 (by omega) (by omega) (by omega) (by omega)
  obtain ⟨⟨a1, a2⟩, ⟨a3, a4⟩⟩ := h1
  obtain ⟨⟨a5, a6⟩, ⟨a7, a8⟩⟩ := h2
  go_enter Try.func22, Try.ntmps22
  go_wp2
  go_returns
  exact ⟨rfl, by go_grown⟩
end Go.Proofs.Yteodlcpcgfjdcaa
end
section
namespace Go.Proofs.Yteodlcpcgfjdcaa
open Go.ChangeShapes Go.WideShapes Go.ChangeAt Go.RowKit
def rpt (x y r : Int) (k : Nat) : Int × Int := (x + (r * pc k).tdiv 4096, y + (r * ps k).tdiv 4096)
def Row (w : World) (g : Nat) (x y r : Int) (k : Nat) : Prop :=
  ∃ cs : Array Value, w.heap[g]? = some (.cells cs 32 (0, 0)) ∧ cs.size = 32 ∧ ∀ j, j < k → cs[j * 2]? = some (.int .i64 (rpt x y r j).1) ∧ cs[j * 2 + 1]? = some (.int .i64 (rpt x y r j).2)
theorem Row.below {w w' : World} {g k B : Nat} {x y r : Int} (h : Row w g x y r k) (hb : Below B w w') (hg : g < B) : Row w' g x y r k := by
  obtain ⟨cs, h1, h2, h3⟩ := h
  exact ⟨cs, (hb.block g hg).trans h1, h2, h3⟩
theorem Row.cells {w : World} {g k : Nat} {x y r : Int} (h : Row w g x y r k) (i : Nat) (hi : i < 32) : (∃ v, w.cell? ⟨g, i, none⟩ = some v) ∧ w.frozen? ⟨g, i, none⟩ = false := by
  obtain ⟨cs, h1, h2, h3⟩ := h
  exact ⟨⟨cs[i], by rw [R.cell_blk h1 i]; exact Array.getElem?_eq_getElem (by omega)⟩, R.free_blk h1 i⟩
theorem Row.store {w : World} {g k : Nat} {x y r : Int} (h : Row w g x y r k) (hk : k < 16) :
    Row ((w.setCell ⟨g, k * 2, none⟩ (.int .i64 (rpt x y r k).1)).setCell ⟨g, k * 2 + 1, none⟩ (.int .i64 (rpt x y r k).2)) g x y r (k + 1) := by
  obtain ⟨cs, h1, h2, h3⟩ := h
  refine ⟨(cs.setIfInBounds (k * 2) (.int .i64 (rpt x y r k).1)).setIfInBounds (k * 2 + 1) (.int .i64 (rpt x y r k).2), ?_, by simp [h2], fun j hj => ?_⟩
  · simp [World.setCell, Array.getElem?_modify, h1]
  · rcases Nat.decEq j k with hne | rfl
    · have hlt : j < k := by omega
      rw [Array.getElem?_setIfInBounds_ne (by omega), Array.getElem?_setIfInBounds_ne (by omega), Array.getElem?_setIfInBounds_ne (by omega), Array.getElem?_setIfInBounds_ne (by omega)]
      exact h3 j hlt
    · have hk1 : j * 2 < cs.size := by omega
      have hk2 : j * 2 + 1 < cs.size := by omega
      constructor
      · rw [Array.getElem?_setIfInBounds_ne (by omega)]
        simp [hk1]
      · simp [hk2]
end Go.Proofs.Yteodlcpcgfjdcaa
end
section
namespace Go.Proofs.Yteodlcpcgfjdcaa
open Go Go.RowKit Go.Proofs.Yteodlcpcgfjdcaa.E
theorem chk_place (x y : Int) : M.chk [(x, y)] = M.err (M.placeB x y) := by
  unfold M.chk M.okAll M.err M.placeB M.btw
  simp only [List.all_cons, List.all_nil, Bool.and_true, M.fits, Bool.decide_and]
theorem turfCheck (x y : Int) : Ret cfg 40 [.raw (.agg #[.int .i64 x, .int .i64 y])] (.raw (.int .i64 (M.err (M.placeB x y)))) := by
  rw [← chk_place]
  exact fn_of_calls (args := [.agg #[.int .i64 x, .int .i64 y]]) fun w => Check_any x y w
set_option maxRecDepth 100000 in
theorem between_1 (n l h : Int) (f0 : l ≤ n) : Ret cfg 28 [.raw (.int .i64 n), .raw (.int .i64 l), .raw (.int .i64 h)] (V.raw (.bool (decide (n ≤ h)))) := by
  exact fn_of cfg_mixed cfg_call cfg_base.1 cfg_base.2.1 cfg_base.2.2 (n := 40) (ans := [Ans.go, Ans.br true, Ans.br true]) (cons := [(decide (l ≤ n) = true), (true = true)]) (by kernel_rfl) rfl rfl
    ⟨(by first | assumption | omega | (simp_all; done) | (simp_all; omega)), rfl, trivial⟩
set_option maxRecDepth 100000 in
theorem between_2 (n l h : Int) (f0 : ¬l ≤ n) : Ret cfg 28 [.raw (.int .i64 n), .raw (.int .i64 l), .raw (.int .i64 h)] (V.raw (.bool false)) := by
  exact fn_of cfg_mixed cfg_call cfg_base.1 cfg_base.2.1 cfg_base.2.2 (n := 40) (ans := [Ans.go, Ans.br false, Ans.br false]) (cons := [(decide (l ≤ n) = false), (false = false)]) (by kernel_rfl) rfl rfl
    ⟨(by first | assumption | omega | (simp_all; done) | (simp_all; omega)), rfl, trivial⟩
theorem between (n l h : Int) : Ret cfg 28 [.raw (.int .i64 n), .raw (.int .i64 l), .raw (.int .i64 h)] (.raw (.bool (M.btw n l h))) := by
  by_cases f0 : l ≤ n
  ·
    have e : (.raw (.bool (M.btw n l h)) : V) = V.raw (.bool (decide (n ≤ h))) := by (simp [M.btw]; omega)
    rw [e]
    exact between_1 n l h f0
  ·
    have e : (.raw (.bool (M.btw n l h)) : V) = V.raw (.bool false) := by (simp [M.btw]; omega)
    rw [e]
    exact between_2 n l h f0
set_option maxRecDepth 100000 in
theorem within_1 (n l h : Int) (f0 : l ≤ n) : Ret cfg 33 [.raw (.int .i64 n), .raw (.int .i64 l), .raw (.int .i64 h)] (V.raw (.bool (decide (n ≤ h)))) := by
  exact fn_of cfg_mixed cfg_call cfg_base.1 cfg_base.2.1 cfg_base.2.2 (n := 40) (ans := [Ans.go, Ans.br true, Ans.br true]) (cons := [(decide (l ≤ n) = true), (true = true)]) (by kernel_rfl) rfl rfl
    ⟨(by first | assumption | omega | (simp_all; done) | (simp_all; omega)), rfl, trivial⟩
set_option maxRecDepth 100000 in
theorem within_2 (n l h : Int) (f0 : ¬l ≤ n) : Ret cfg 33 [.raw (.int .i64 n), .raw (.int .i64 l), .raw (.int .i64 h)] (V.raw (.bool false)) := by
  exact fn_of cfg_mixed cfg_call cfg_base.1 cfg_base.2.1 cfg_base.2.2 (n := 40) (ans := [Ans.go, Ans.br false, Ans.br false]) (cons := [(decide (l ≤ n) = false), (false = false)]) (by kernel_rfl) rfl rfl
    ⟨(by first | assumption | omega | (simp_all; done) | (simp_all; omega)), rfl, trivial⟩
theorem within (n l h : Int) : Ret cfg 33 [.raw (.int .i64 n), .raw (.int .i64 l), .raw (.int .i64 h)] (.raw (.bool (M.btw n l h))) := by
  by_cases f0 : l ≤ n
  ·
    have e : (.raw (.bool (M.btw n l h)) : V) = V.raw (.bool (decide (n ≤ h))) := by (simp [M.btw]; omega)
    rw [e]
    exact within_1 n l h f0
  ·
    have e : (.raw (.bool (M.btw n l h)) : V) = V.raw (.bool false) := by (simp [M.btw]; omega)
    rw [e]
    exact within_2 n l h f0
set_option maxRecDepth 100000 in
theorem among_1 (n l h : Int) (f0 : l ≤ n) : Ret cfg 67 [.raw (.int .i64 n), .raw (.int .i64 l), .raw (.int .i64 h)] (V.raw (.bool (decide (n ≤ h)))) := by
  exact fn_of cfg_mixed cfg_call cfg_base.1 cfg_base.2.1 cfg_base.2.2 (n := 40) (ans := [Ans.go, Ans.br true, Ans.br true]) (cons := [(decide (l ≤ n) = true), (true = true)]) (by kernel_rfl) rfl rfl
    ⟨(by first | assumption | omega | (simp_all; done) | (simp_all; omega)), rfl, trivial⟩
set_option maxRecDepth 100000 in
theorem among_2 (n l h : Int) (f0 : ¬l ≤ n) : Ret cfg 67 [.raw (.int .i64 n), .raw (.int .i64 l), .raw (.int .i64 h)] (V.raw (.bool false)) := by
  exact fn_of cfg_mixed cfg_call cfg_base.1 cfg_base.2.1 cfg_base.2.2 (n := 40) (ans := [Ans.go, Ans.br false, Ans.br false]) (cons := [(decide (l ≤ n) = false), (false = false)]) (by kernel_rfl) rfl rfl
    ⟨(by first | assumption | omega | (simp_all; done) | (simp_all; omega)), rfl, trivial⟩
theorem among (n l h : Int) : Ret cfg 67 [.raw (.int .i64 n), .raw (.int .i64 l), .raw (.int .i64 h)] (.raw (.bool (M.btw n l h))) := by
  by_cases f0 : l ≤ n
  ·
    have e : (.raw (.bool (M.btw n l h)) : V) = V.raw (.bool (decide (n ≤ h))) := by (simp [M.btw]; omega)
    rw [e]
    exact among_1 n l h f0
  ·
    have e : (.raw (.bool (M.btw n l h)) : V) = V.raw (.bool false) := by (simp [M.btw]; omega)
    rw [e]
    exact among_2 n l h f0
end Go.Proofs.Yteodlcpcgfjdcaa
end
