/-
  The examples of the chapter (index): IndexKnown returns true.
-/
import Derived.Test.YtkkgmodladgonaaDoorKNb
set_option linter.unusedVariables false
set_option linter.unusedSimpArgs false
set_option maxRecDepth 100000
section
namespace Go.Proofs.YtkkgmodladgonaaDoor.E2
open Go Go.RowKit
noncomputable section
def ptrR (r : Nat) : V := .raw (.pointer (some ⟨r, 0, none⟩))
def goesOn (nxl : Nat) : Ex → Bool
  | .normal => true
  | .exit i => i == nxl
  | .ret => false
structure MapPart where
  d8 : Nat
  y : Operand
  it : Nat
  T : TypeId
  out : Nat
  nx : Nat
  mo : Nat
  nxl : Nat
  ops11 : Array Oper
  pair : Nat
  rest : List Oper
  body : Code
def mapPart : Code → Option MapPart
  | .seq (.region _ ops9 false) (.block out (.loop (.seq (.region _ ops10 false) (.seq (.cond (.tmp mo) .skip (.exit out2)) (.block nxl (.seq (.region _ ops11 false) body)))))) =>
    match ops9.toList, ops10.toList, ops11.toList with
    | [⟨some d8, .move y, _, _, _, none⟩, ⟨some it, .range T (.tmp d9), _, _, _, none⟩], [⟨some nx, .next (.tmp it2) false, _, _, _, none⟩, ⟨some mo2, .extract (.tmp nx2) 0, _, _, _, none⟩], ⟨some pair, .entry (.tmp it3), _, _, _, none⟩ :: rest =>
      if out = out2 ∧ d8 = d9 ∧ it = it2 ∧ mo = mo2 ∧ nx = nx2 ∧ it = it3 ∧ d8 ≠ it ∧ nx ≠ it ∧ mo ≠ it ∧ pair ≠ it ∧ nx ≠ mo then some ⟨d8, y, it, T, out, nx, mo, nxl, ops11, pair, rest, body⟩ else none
    | _, _, _ => none
  | _ => none
def withE (m : MapPart) (e : Value × Value) (t : List V) : List V :=
  putT (putT (putT t (some m.nx) (.raw (.tuple #[.bool true, e.1, e.2]))) (some m.mo) (.raw (.bool true))) (some m.pair) (.raw (.tuple #[e.1, e.2]))
def atEnd (m : MapPart) (t : List V) : List V := putT (putT t (some m.nx) (.raw (.tuple #[.bool false]))) (some m.mo) (.raw (.bool false))
def evRound (c : Cfg) (cf : CF) (lim fi : Nat) (m : MapPart) (r bm : Nat) (e : Value × Value) (t : List V) (h : Heap) : Option (List V × Heap × List Prop) :=
  match evOps c cf lim m.ops11 m.rest (withE m e t) h [.auto [] []] with
  | none => none
  | some q => match evCode c cf lim none fi m.body 0 q.t q.h q.ans with
    | none => none
    | some o => match goesOn m.nxl o.e, mapAt q.h bm, mapAt o.h bm with
      | true, some _, some _ => some (o.t, o.h, (getR o.t m.it = some (ptrR r)) :: (q.cons ++ o.cons))
      | _, _, _ => none
def gather {α : Type} : List (Option (List α × List Prop)) → Option (List α × List Prop)
  | [] => some ([], [])
  | none :: _ => none
  | some x :: l => match gather l with
    | none => none
    | some y => some (x.1 ++ y.1, x.2 ++ y.2)
def withP {α : Type} (ps : List Prop) : Option (List α × List Prop) → Option (List α × List Prop)
  | none => none
  | some x => some (x.1, ps ++ x.2)
def evTree (c : Cfg) (cf : CF) (lim fi : Nat) (m : MapPart) (r bm : Nat) (es : List (Value × Value)) : Nat → List Nat → List V → Heap → Option (List (List V × Heap) × List Prop)
  | 0, _, _, _ => none
  | n + 1, left, t, h => if m.nx < t.length ∧ m.mo < t.length then match left with
    | [] => some ([(atEnd m t, h)], [])
    | j0 :: l0 => gather ((j0 :: l0).map fun j => match es[j]? with
      | none => none
      | some e => match evRound c cf lim fi m r bm e t h with
        | none => none
        | some x => withP x.2.2 (evTree c cf lim fi m r bm es n ((j0 :: l0).filter (· != j)) x.1 x.2.1))
    else none
theorem gather_mem {α : Type} : ∀ {l : List (Option (List α × List Prop))} {out : List α × List Prop}, gather l = some out → ∀ x ∈ l, ∃ y, x = some y ∧ (∀ p ∈ y.1, p ∈ out.1) ∧ ∀ p ∈ y.2, p ∈ out.2
  | [], out, _, x, hx => by cases hx
  | none :: l, out, h, x, hx => by simp [gather] at h
  | some z :: l, out, h, x, hx => by
    simp only [gather] at h
    split at h
    · cases h
    · rename_i y hy
      simp only [Option.some.injEq] at h
      subst h
      rcases List.mem_cons.1 hx with rfl | hx
      · exact ⟨z, rfl, fun p hp => List.mem_append_left _ hp, fun p hp => List.mem_append_left _ hp⟩
      · obtain ⟨u, h1, h2, h3⟩ := gather_mem hy x hx
        exact ⟨u, h1, fun p hp => List.mem_append_right _ (h2 p hp), fun p hp => List.mem_append_right _ (h3 p hp)⟩
section
variable {c : Cfg} {lim : Nat}
theorem BlkOk.notIter {P : Program} {ρ : Ren} {l : Loc} {w : World} {B : Blk} (h : BlkOk P ρ l w B) (hn : l.nil = false) {x : Option Nat} {s k : Nat} {q : Array Nat} : w.heap[l.n]? ≠ some (.mapIter x s q k) := by
  cases B with
  | cells cs ty own => obtain ⟨fr, h1, _⟩ := h.row hn; rw [h1]; simp
  | rcd r => obtain ⟨_, fn, u, D, h1⟩ := h; rw [h1]; simp
  | mp ks vs bs k => rw [h.2]; simp
structure At (c : Cfg) (lim : Nat) (ρ0 : Ren) (h0 : Heap) (a0 : Act) (w0 : World) (t : List V) (h : Heap) (ρ : Ren) (a : Act) (w : World) : Prop where
  RT : RelT ρ h.length t a
  RH : RelH c ρ h w
  F : Fr lim h0.length ρ0 h0 w0 ρ h w
  M : ∃ ms, a.defers = ms ++ a0.defers ∧ Marks w0 w ms
section
variable {ρ0 : Ren} {h0 : Heap} {a0 : Act} {w0 : World} {t : List V} {h : Heap} {ρ : Ren} {a : Act} {w : World}
theorem At.go (A : At c lim ρ0 h0 a0 w0 t h ρ a w) (hln : lim ≤ h0.length) {lim1 : Nat} (hl1 : lim ≤ lim1) {code : Code} {e : Ex} {t' : List V} {h' : Heap} (hr : Runs c lim1 h.length none code t h e t' h') {Q : Exit → Act → World → Prop}
    (hQ : ∀ ρ' a' w', At c lim ρ0 h0 a0 w0 t' h' ρ' a' w' → Fr lim1 h.length ρ h w ρ' h' w' → Q e.to a' w') : code.wpIn (FW none) 0 c.P Q a w := by
  refine wpIn_mono (hr ρ a w A.RT A.RH) fun x a' w' ⟨hx, ρ', ms, d, M, RT', RH', F⟩ => ?_
  subst hx
  obtain ⟨ms0, d0, M0⟩ := A.M
  exact hQ ρ' a' w' ⟨RT', RH', A.F.trans ((F.mono hl1).fewer A.F.len hln), ms ++ ms0, by rw [d, d0, List.append_assoc], Marks.trans M0 M A.F.size (fun D hD => F.keep A.RH hD)⟩ F
theorem At.put (A : At c lim ρ0 h0 a0 w0 t h ρ a w) {v : V} (hv : v.under h.length = true) (d : Option Nat) : At c lim ρ0 h0 a0 w0 (putT t d v) h ρ (a.put d (v.conc ρ)) w :=
  ⟨relT_put A.RT (fun _ _ => rfl) rfl (Nat.le_refl _) (V.slot_of_under _ hv) d, A.RH, A.F, by obtain ⟨ms, d1, M⟩ := A.M; exact ⟨ms, by rw [put_defers]; exact d1, M⟩⟩
theorem At.turn (A : At c lim ρ0 h0 a0 w0 t h ρ a w) {r : Nat} {w' : World} (hr : w0.heap.size ≤ r) (hnm : ∀ i B, h[i]? = some (some B) → (ρ.blk i).nil = false → (ρ.blk i).n ≠ r) (hnd : ∀ x, w.heap[r]? ≠ some (.deferred x))
    (os : w'.os = w.os) (tp : w'.tape = w.tape) (ou : w'.output = w.output) (sz : w.heap.size ≤ w'.heap.size) (hb : ∀ k, k ≠ r → k < w.heap.size → w'.heap[k]? = w.heap[k]?) : At c lim ρ0 h0 a0 w0 t h ρ a w' := by
  refine ⟨A.RT, ⟨fun i B hi => (A.RH.cell i B hi).move (A.RH.sco i B hi) (fun _ _ => rfl) fun hn => hb _ (hnm i B hi hn) (A.RH.lt ⟨B, hi, hn⟩), A.RH.inj, A.RH.sco, A.RH.glob, A.RH.big, A.RH.base⟩,
    ⟨os.trans A.F.os, tp.trans A.F.tape, ou.trans A.F.output, Nat.le_trans A.F.size sz, fun k hk hn => ?_, A.F.ren, A.F.len, A.F.fresh, A.F.dead⟩, ?_⟩
  · rw [hb k (by omega) (Nat.lt_of_lt_of_le hk A.F.size)]
    exact A.F.blk k hk hn
  · obtain ⟨ms, d, M⟩ := A.M
    refine ⟨ms, d, M.keep fun D hD => ?_⟩
    rw [hb D (fun e => hnd _ (e ▸ hD)) (Array.getElem?_eq_some_iff.1 hD).1]
    exact hD
end
theorem getR_put (t : List V) (d s : Nat) (v : V) (h : d ≠ s) : getR (putT t (some d) v) s = getR t s := by
  simp only [putT, getR_eq, setR_eq]
  exact List.getElem?_set_ne h
theorem eval_put_self {a : Act} {d : Nat} {v : Value} (h : d < a.tmps.size) : (a.put (some d) v).eval (.tmp d) = v := by
  simp [Act.put, Act.eval, h]
structure MI (A : List MapEntry) (clock m0 r : Nat) (left : List Nat) (w : World) : Prop where
  wm : w.heap[m0]? = some (.map A.toArray clock)
  wi : ∃ seen last, w.heap[r]? = some (.mapIter (some m0) clock seen last) ∧ clock ≤ last ∧ ∀ j : Nat, j ∈ left ↔ ∃ e : MapEntry, A[j]? = some e ∧ seen.contains e.born = false
theorem mem_left {A : List MapEntry} {seen : Array Nat} {e : MapEntry} : e ∈ (leftOf A.toArray seen).toList ↔ e ∈ A ∧ seen.contains e.born = false := by
  simp [leftOf]
theorem tree_sound (hm : c.P.follows .mixedOrders = true) {cf : CF} (hcf : CallOk c cf) (hfn : ∀ f, c.fns f = true → Callable c.P f) {lim1 : Nat} (hL : c.L ≤ lim1) (hl1 : lim ≤ lim1) {fi : Nat} {m : MapPart} {r bm m0 clock : Nat} {es : List (Value × Value)} {A0 : List MapEntry}
    (hnr : (rangesIn m.body).isEmpty = true) (hes : ∀ (j : Nat) (x : MapEntry), A0[j]? = some x → es[j]? = some (x.key, x.val)) (hold : ∀ x ∈ A0, x.born < clock) (hN : (A0.map (·.born)).Nodup) (hbm : bm < lim1)
    {i10 i11 : Nat} {ops10 : Array Oper} {ty1 ty2 ty3 : TypeId} {p1 p2 p3 : String} {b1 b2 b3 : Array Edge}
    (h10 : ops10.toList = [⟨some m.nx, .next (.tmp m.it) false, ty1, p1, b1, none⟩, ⟨some m.mo, .extract (.tmp m.nx) 0, ty2, p2, b2, none⟩])
    (h11 : m.ops11.toList = ⟨some m.pair, .entry (.tmp m.it), ty3, p3, b3, none⟩ :: m.rest) (hd1 : m.nx ≠ m.it) (hd2 : m.mo ≠ m.it) (hd3 : m.nx ≠ m.mo)
    {ρ0 : Ren} {h0 : Heap} {a0 : Act} {w0 : World} (hln : lim ≤ h0.length) (hr0 : w0.heap.size ≤ r) :
    ∀ n left t h out, evTree c cf lim1 fi m r bm es n left t h = some out → (∀ p ∈ out.2, p) → lim1 ≤ h.length → getR t m.it = some (ptrR r) → (mapAt h bm).isSome = true →
      ∀ ρ a w, At c lim ρ0 h0 a0 w0 t h ρ a w → (ρ.blk bm).nil = false → (ρ.blk bm).n = m0 → MI A0 clock m0 r left w → ∀ Q : Exit → Act → World → Prop,
        (∀ p ∈ out.1, ∀ ρ' a' w', At c lim ρ0 h0 a0 w0 p.1 p.2 ρ' a' w' → Q (.exit m.out) a' w') →
        Code.roundsIn (FW none) 0 c.P (.seq (.region i10 ops10 false) (.seq (.cond (.tmp m.mo) .skip (.exit m.out)) (.block m.nxl (.seq (.region i11 m.ops11 false) m.body)))) Q n a w := by
  intro n
  induction n with
  | zero => intro left t h out he; simp [evTree] at he
  | succ n ih =>
    intro left t h out he hps hl hit hmp ρ a w A hbn hbm0 I Q hQ
    simp only [evTree] at he
    split at he
    rotate_left 1
    · cases he
    rename_i hlen
    obtain ⟨hnx, hmo⟩ := hlen
    rw [roundsIn_succ]
    obtain ⟨seen, last, wi, hle, hleft⟩ := I.wi
    have hev : a.eval (.tmp m.it) = .pointer (some ⟨r, 0, none⟩) := opnd_eval A.RH A.RT (x := .tmp m.it) (v := ptrR r) (by simp only [opnd, hit, ptrR])
    have hsz : a.tmps.size = t.length := by rw [A.RT.tmps]; simp [concs_length]
    have hnext := run_next_at (P := c.P) w ty1 r m0 clock last seen A0.toArray clock wi I.wm (by simpa using hold) hle
    refine wpIn_seq (wpIn_region_list ?_)
    rw [h10]
    refine wpListIn_plain rfl fun K hK => ?_
    cases left with
    | nil =>
      simp only [Option.some.injEq] at he
      subst he
      rcases hnext with ⟨hz, hrun⟩ | ⟨e, hme, _⟩
      · refine value_step (v := .tuple #[.bool false]) (w' := w) (by intro k; simp) ?_ (hK _ _ ?_)
        · generalize a.eval = g at hev ⊢
          simp only [execOp, hev]
          simp [go_sem, hrun]
        · refine wpListIn_plain rfl fun K2 hK2 => value_step (v := .bool false) (w' := w) (by intro k; simp) ?_ (hK2 _ _ (wpListIn_nil ?_))
          · have e1 : (a.put (some m.nx) (.tuple #[.bool false])).eval (.tmp m.nx) = .tuple #[.bool false] := eval_put_self (by omega)
            generalize (a.put (some m.nx) (.tuple #[.bool false])).eval = g at e1 ⊢
            simp [execOp, e1, Instr.extract, go_sem]
          · have A2 := (A.put (v := .raw (.tuple #[.bool false])) rfl (some m.nx)).put (v := .raw (.bool false)) rfl (some m.mo)
            refine wpIn_seq (wpIn_cond_false (eval_put_self ?_) (wpIn_exit ?_))
            · simp [Act.put]; omega
            · exact hQ _ (List.mem_singleton_self _) _ _ _ A2
      · obtain ⟨h1, h2⟩ := mem_left.1 hme
        obtain ⟨j, hj⟩ := List.getElem?_of_mem h1
        exact absurd ((hleft j).2 ⟨e, hj, h2⟩) (by simp)
    | cons j0 l0 =>
      simp only at he
      rcases hnext with ⟨hz, hrun⟩ | ⟨e, hme, w1, hw1, hrun⟩
      · obtain ⟨e0, k1, k2⟩ := (hleft j0).1 List.mem_cons_self
        have : e0 ∈ (leftOf A0.toArray seen).toList := mem_left.2 ⟨List.mem_of_getElem? k1, k2⟩
        have h3 : (leftOf A0.toArray seen).toList = [] := List.eq_nil_of_length_eq_zero (by simpa using hz)
        rw [h3] at this
        cases this
      · obtain ⟨h1, h2⟩ := mem_left.1 hme
        obtain ⟨j, hj⟩ := List.getElem?_of_mem h1
        have hjl := (hleft j).2 ⟨e, hj, h2⟩
        obtain ⟨y, hy1, hy2, hy3⟩ := gather_mem he _ (List.mem_map.2 ⟨j, hjl, rfl⟩)
        rw [hes j e hj] at hy1
        simp only at hy1
        split at hy1
        · cases hy1
        · rename_i x hx
          cases hT : evTree c cf lim1 fi m r bm es n (List.filter (fun x => x != j) (j0 :: l0)) x.1 x.2.1 with
          | none => rw [hT] at hy1; simp [withP] at hy1
          | some z =>
            rw [hT] at hy1
            simp only [withP, Option.some.injEq] at hy1
            subst hy1
            unfold evRound at hx
            split at hx
            · cases hx
            · rename_i q hq
              split at hx
              · cases hx
              · rename_i o ho
                split at hx
                rotate_left 1
                · cases hx
                · rename_i u1 u2 hgo hmq hmo2
                  simp only [Option.some.injEq] at hx
                  subst hx
                  have hps' : ∀ p ∈ (getR o.t m.it = some (ptrR r)) :: (q.cons ++ o.cons) ++ z.2, p := fun p hp => hps p (hy3 p hp)
                  have hitO : getR o.t m.it = some (ptrR r) := hps' _ List.mem_cons_self
                  -- the world behind 'next'
                  have hrlt : r < w.heap.size := (Array.getElem?_eq_some_iff.1 wi).1
                  have hwh : w1.heap = w.heap ∧ w1.os = w.os ∧ w1.tape = w.tape ∧ w1.output = w.output := by
                    rcases hw1 with rfl | rfl
                    · exact ⟨rfl, rfl, rfl, rfl⟩
                    · exact ⟨rfl, rfl, rfl, rfl⟩
                  generalize hw2 : ChangeMaps.setBlock w1 r (.mapIter (some m0) clock (seen.push e.born) clock) = w2 at hrun
                  have hw2k : ∀ k, k ≠ r → w2.heap[k]? = w.heap[k]? := fun k hk => by
                    rw [← hw2]
                    simp only [ChangeMaps.setBlock, hwh.1]
                    rw [Array.getElem?_setIfInBounds_ne (by omega)]
                  have hw2r : w2.heap[r]? = some (.mapIter (some m0) clock (seen.push e.born) clock) := by
                    rw [← hw2]
                    simp only [ChangeMaps.setBlock, hwh.1]
                    rw [Array.getElem?_setIfInBounds_self_of_lt hrlt]
                  have hm0r : m0 ≠ r := fun e0 => by
                    have := I.wm
                    rw [e0, wi] at this
                    cases this
                  have hnm : ∀ i B, h[i]? = some (some B) → (ρ.blk i).nil = false → (ρ.blk i).n ≠ r := fun i B hi hn e0 => (A.RH.cell i B hi).notIter hn (by rw [e0]; exact wi)
                  have A2 : At c lim ρ0 h0 a0 w0 t h ρ a w2 := A.turn hr0 hnm (fun x h0 => by rw [wi] at h0; cases h0) (by rw [← hw2]; exact hwh.2.1) (by rw [← hw2]; exact hwh.2.2.1) (by rw [← hw2]; exact hwh.2.2.2) (by rw [← hw2]; simp [ChangeMaps.setBlock, hwh.1]) (fun k hk _ => hw2k k hk)
                  have A4 := (A2.put (v := .raw (.tuple #[.bool true, e.key, e.val])) rfl (some m.nx)).put (v := .raw (.bool true)) rfl (some m.mo)
                  have A5 := A4.put (v := .raw (.tuple #[e.key, e.val])) rfl (some m.pair)
                  refine value_step (v := .tuple #[.bool true, e.key, e.val]) (w' := w2) (by intro k; simp) ?_ (hK _ _ ?_)
                  · generalize a.eval = g at hev ⊢
                    simp only [execOp, hev]
                    simp [go_sem, hrun]
                  · refine wpListIn_plain rfl fun K2 hK2 => value_step (v := .bool true) (w' := w2) (by intro k; simp) ?_ (hK2 _ _ (wpListIn_nil ?_))
                    · have e1 : (a.put (some m.nx) (.tuple #[.bool true, e.key, e.val])).eval (.tmp m.nx) = .tuple #[.bool true, e.key, e.val] := eval_put_self (by omega)
                      generalize (a.put (some m.nx) (.tuple #[.bool true, e.key, e.val])).eval = g at e1 ⊢
                      simp [execOp, e1, Instr.extract, go_sem]
                    · refine wpIn_seq (wpIn_cond_true (eval_put_self ?_) (wpIn_skip ?_))
                      · simp [Act.put]; omega
                      · refine wpIn_block (wpIn_seq (wpIn_region_list ?_))
                        rw [h11]
                        refine wpListIn_plain rfl fun K3 hK3 => value_step (v := .tuple #[e.key, e.val]) (w' := w2) (by intro k; simp) ?_ (hK3 _ _ ?_)
                        · have e1 : ((a.put (some m.nx) (.tuple #[.bool true, e.key, e.val])).put (some m.mo) (.bool true)).eval (.tmp m.it) = .pointer (some ⟨r, 0, none⟩) := opnd_eval A4.RH A4.RT (x := .tmp m.it) (v := ptrR r) (by
                            simp only [opnd]
                            rw [getR_put _ _ _ _ hd2, getR_put _ _ _ _ hd1, hit]
                            rfl)
                          have hent := run_entry_at (P := c.P) w2 r m0 clock seen A0.toArray clock e hw2r (by rw [hw2k m0 hm0r]; exact I.wm) (by simpa using h1) (by simpa using hN)
                          simp only [V.conc]
                          generalize ((a.put (some m.nx) (.tuple #[.bool true, e.key, e.val])).put (some m.mo) (.bool true)).eval = g at e1 ⊢
                          simp only [execOp, e1]
                          simp [go_sem, hent]
                        · refine evOps_sound hcf hfn hL m.rest _ _ _ q ρ _ w2 hq (fun p hp => hps' p (List.mem_append_left _ (List.mem_cons_of_mem _ (List.mem_append_left _ hp)))) hl A5.RH A5.RT fun ρ6 a6 w6 hu6 hd6 RT6 RH6 F6 => ?_
                          have A6 : At c lim ρ0 h0 a0 w0 q.t q.h ρ6 a6 w6 := ⟨RT6, RH6, A5.F.trans ((F6.mono hl1).fewer A5.F.len hln), by
                            obtain ⟨ms, d5, M5⟩ := A5.M
                            exact ⟨ms, by rw [hd6]; exact d5, M5.keep fun D hD => F6.keep A5.RH hD⟩⟩
                          have hlq : lim1 ≤ q.h.length := Nat.le_trans hl F6.len
                          have hrun2 := evCode_sound hm hcf hfn hL (rnd := none) (fi := fi) m.body 0 _ _ _ _ ho (fun p hp => hps' p (List.mem_append_left _ (List.mem_cons_of_mem _ (List.mem_append_right _ hp)))) hlq (fun b e => by cases e) (noRanges hnr)
                          refine A6.go hln hl1 hrun2 fun ρ7 a7 w7 A7 F7 => ?_
                          have fin : Code.roundsIn (FW none) 0 c.P (.seq (.region i10 ops10 false) (.seq (.cond (.tmp m.mo) .skip (.exit m.out)) (.block m.nxl (.seq (.region i11 m.ops11 false) m.body)))) Q n a7 w7 := by
                            have hmp0 : ∃ a b d e, h[bm]? = some (some (.mp a b d e)) := by
                              obtain ⟨u, hu⟩ := Option.isSome_iff_exists.1 hmp
                              obtain ⟨ua, ub, uc, ud⟩ := u
                              exact ⟨ua, ub, uc, ud, (mapAt_ok hu).1⟩
                            obtain ⟨ua, ub, uc, ud⟩ := u1
                            have hmq1 := (mapAt_ok hmq).1
                            obtain ⟨va, vb, vc, vd, hmp1⟩ := hmp0
                            have r6 : ρ6.blk bm = ρ.blk bm := F6.ren bm (by omega)
                            have r7 : ρ7.blk bm = ρ6.blk bm := F7.ren bm (by omega)
                            have n6 : ∀ i, lim1 ≤ i → lw ρ h i → (ρ.blk i).n ≠ m0 := fun i hi hw e0 => by
                              have := A5.RH.inj i bm hw ⟨_, hmp1, hbn⟩ (by rw [e0, hbm0])
                              omega
                            have n7 : ∀ i, lim1 ≤ i → lw ρ6 q.h i → (ρ6.blk i).n ≠ m0 := fun i hi hw e0 => by
                              have := A6.RH.inj i bm hw ⟨_, hmq1, by rw [r6]; exact hbn⟩ (by rw [e0, r6, hbm0])
                              omega
                            have hm0lt : m0 < w2.heap.size := by
                              have := I.wm
                              rw [← hw2k m0 hm0r] at this
                              exact (Array.getElem?_eq_some_iff.1 this).1
                            have hr2lt : r < w2.heap.size := (Array.getElem?_eq_some_iff.1 hw2r).1
                            have s6 : w6.heap[r]? = some (.mapIter (some m0) clock (seen.push e.born) clock) := by
                              rw [F6.blk r hr2lt fun i _ hw e0 => by
                                obtain ⟨B, q1, _, q3⟩ := hw
                                exact (A5.RH.cell i B q1).notIter q3 (by rw [e0]; exact hw2r)]
                              exact hw2r
                            have s7 : w7.heap[r]? = some (.mapIter (some m0) clock (seen.push e.born) clock) := by
                              rw [F7.blk r (Array.getElem?_eq_some_iff.1 s6).1 fun i _ hw e0 => by
                                obtain ⟨B, q1, _, q3⟩ := hw
                                exact (A6.RH.cell i B q1).notIter q3 (by rw [e0]; exact s6)]
                              exact s6
                            have m7 : w7.heap[m0]? = some (.map A0.toArray clock) := by
                              rw [F7.blk m0 (Nat.lt_of_lt_of_le hm0lt F6.size) n7, F6.blk m0 hm0lt n6, hw2k m0 hm0r]
                              exact I.wm
                            refine ih _ _ _ z hT (fun p hp => hps' p (List.mem_append_right _ hp)) (Nat.le_trans hlq F7.len) hitO (by rw [hmo2]; rfl) ρ7 a7 w7 A7 (by rw [r7, r6]; exact hbn) (by rw [r7, r6]; exact hbm0) ⟨m7, seen.push e.born, clock, s7, Nat.le_refl _, fun j' => ?_⟩ Q (fun p hp => hQ p (hy2 p hp))
                            rw [List.mem_filter]
                            constructor
                            · rintro ⟨k1, k2⟩
                              obtain ⟨e', k3, k4⟩ := (hleft j').1 k1
                              refine ⟨e', k3, ?_⟩
                              have hne : e'.born ≠ e.born := fun e0 => by
                                have h5 : (A0.map (·.born))[j']? = (A0.map (·.born))[j]? := by simp [k3, hj, e0]
                                have h6 : j' < (A0.map (·.born)).length := by
                                  rw [List.length_map]
                                  exact (List.getElem?_eq_some_iff.1 k3).1
                                have := (List.getElem?_inj h6 hN).1 h5
                                subst this
                                simp at k2
                              simp only [Array.contains_push, Bool.or_eq_false_iff]
                              first
                                | exact ⟨k4, by simpa using hne⟩
                                | exact ⟨by simpa using hne, k4⟩
                                | (simp_all)
                            · rintro ⟨e', k3, k4⟩
                              have k5 : seen.contains e'.born = false ∧ e'.born ≠ e.born := by
                                simp only [Array.contains_push, Bool.or_eq_false_iff] at k4
                                first
                                  | exact ⟨k4.1, by simpa using k4.2⟩
                                  | exact ⟨k4.2, by simpa using k4.1⟩
                                  | (simp_all)
                              refine ⟨(hleft j').2 ⟨e', k3, k5.1⟩, ?_⟩
                              have : j' ≠ j := fun e0 => by
                                subst e0
                                rw [hj] at k3
                                cases k3
                                exact k5.2 rfl
                              simpa using this
                          cases hoe : o.e with
                          | normal => exact fin
                          | exit i =>
                            rw [hoe] at hgo
                            simp only [goesOn, beq_iff_eq] at hgo
                            subst hgo
                            simp only [Ex.to, Exit.inBlock, if_true]
                            exact fin
                          | ret => rw [hoe] at hgo; simp [goesOn] at hgo
end
def valEq : Value → Value → Bool
  | .int k a, .int k' b => decide (k = k') && decide (a = b)
  | .bool a, .bool b => a == b
  | .string a, .string b => decide (a = b)
  | _, _ => false
def rowEq : List V → List V → Bool
  | [], [] => true
  | .raw x :: l, .raw y :: m => match valEq x y with
    | true => rowEq l m
    | false => false
  | _, _ => false
theorem valEq_ok {x y : Value} (h : valEq x y = true) : x = y := by
  cases x <;> cases y <;> simp_all [valEq]
theorem rowEq_ok : ∀ {l m : List V}, rowEq l m = true → l = m
  | [], [], _ => rfl
  | [], _ :: _, h => by simp [rowEq] at h
  | x :: l, [], h => by cases x <;> simp [rowEq] at h
  | x :: l, y :: m, h => by
    cases x <;> cases y <;> simp only [rowEq, Bool.false_eq_true] at h
    split at h
    · rename_i he
      rw [valEq_ok he, rowEq_ok h]
    · cases h
def rowOut (n : Nat) (N0 : List V) (v : V) (H : Heap) : Option (V × Heap) := match v with
  | .slo b k => match H[b]? with
    | some (some (.cells N U own)) => if n ≤ b ∧ cleanH n n H = true ∧ unders 0 N0 = true ∧ n ≤ H.length ∧ rowEq N N0 = true then some (.slo n k, H.take n ++ [some (.cells N0 U own)]) else none
    | _ => none
  | _ => none
def nodupB : List Nat → Bool
  | [] => true
  | b :: l => !l.contains b && nodupB l
theorem nodupB_ok : ∀ {l : List Nat}, nodupB l = true → l.Nodup
  | [], _ => List.nodup_nil
  | b :: l, h => by
    simp only [nodupB, Bool.and_eq_true, Bool.not_eq_true'] at h
    exact List.nodup_cons.2 ⟨by simpa using h.1, nodupB_ok h.2⟩
def isMapT (c : Cfg) (T : TypeId) : Bool := match pureRun c.P (underlying T) with
  | some (.map _ _) => true
  | _ => false
def evPart (c : Cfg) (cf : CF) (fi r : Nat) (m : MapPart) (t : List V) (h : Heap) : Option (List (List V × Heap) × List Prop) :=
  match opnd c t m.y with
  | some (.mp bm) => match mapAt h bm with
    | some (ks, vs, bs, k) => match raws vs with
      | some us => if (isMapT c m.T && bs.all (fun b => decide (b < k)) && nodupB bs) = true ∧ m.it < t.length ∧ m.d8 < t.length ∧ c.L ≤ h.length then
          evTree c cf h.length fi m r bm (ks.zip us) (ks.length + 1) (List.range ks.length) (putT (putT t (some m.d8) (.mp bm)) (some m.it) (ptrR r)) h
        else none
      | none => none
    | none => none
  | _ => none
def ends : Ex → Bool
  | .exit _ => false
  | _ => true
def evTails {β : Type} (f : List V × Heap → List Ans → Option (β × List Prop)) : List (List V × Heap) → List (List Ans) → Option (List β × List Prop)
  | [], _ => some ([], [])
  | _ :: _, [] => none
  | p :: l, q :: qs => match f p q with
    | none => none
    | some x => match evTails f l qs with
      | none => none
      | some y => some (x.1 :: y.1, x.2 ++ y.2)
def evTail (c : Cfg) (cf : CF) (lim fi n : Nat) (N0 : List V) (res : List ResultVar) (y : Code) (p : List V × Heap) (q : List Ans) : Option ((V × Heap) × List Prop) :=
  match evCode c cf lim none fi y 0 p.1 p.2 q with
  | none => none
  | some o => match ends o.e with
    | false => none
    | true => match resultsV c o.t o.h res with
      | none => none
      | some vs => match rowOut n N0 (oneOf vs) o.h with
        | none => none
        | some z => some (z, o.cons)
def evN (c : Cfg) (cf : CF) (lim fi r n : Nat) (N0 : List V) (res : List ResultVar) (qs : List (List Ans)) : Code → List V → Heap → List Ans → Option (List (V × Heap) × List Prop)
  | .seq x y, t, h, ans => match mapPart x with
    | some m => match evPart c cf fi r m t h with
      | none => none
      | some l => withP l.2 (evTails (evTail c cf lim fi n N0 res y) l.1 qs)
    | none => match evCode c cf lim none fi x 0 t h ans with
      | none => none
      | some o => match o.e with
        | .normal => withP o.cons (evN c cf lim fi r n N0 res qs y o.t o.h o.ans)
        | _ => none
  | _, _, _, _ => none
def evAny (c : Cfg) (n : Nat) (f : FuncId) (args : List V) (h : Heap) (lim r : Nat) (N0 : List V) (ans : List Ans) (qs : List (List Ans)) : Option (List (V × Heap) × List Prop) :=
  match c.P.funcs[f]? with
  | none => none
  | some fn => match fn.body with
    | none => none
    | some code => match (rangesIn code).isEmpty with
      | true => evN c ⟨evFunc c n, evYlds c (evFunc c n) 3⟩ lim f r h.length N0 fn.results.toList qs code (args ++ List.replicate (fn.ntmps - args.length) (.raw undef)) h ans
      | false => none
theorem evTails_mem {β : Type} {f : List V × Heap → List Ans → Option (β × List Prop)} : ∀ {l : List (List V × Heap)} {qs : List (List Ans)} {out : List β × List Prop}, evTails f l qs = some out → ∀ p ∈ l, ∃ q y, f p q = some y ∧ y.1 ∈ out.1 ∧ ∀ u ∈ y.2, u ∈ out.2
  | [], _, _, _, p, hp => by cases hp
  | _ :: _, [], _, h, _, _ => by simp [evTails] at h
  | z :: l, q :: qs, out, h, p, hp => by
    simp only [evTails] at h
    split at h
    · cases h
    · rename_i x hx
      split at h
      · cases h
      · rename_i y hy
        simp only [Option.some.injEq] at h
        subst h
        rcases List.mem_cons.1 hp with rfl | hp
        · exact ⟨q, x, hx, List.mem_cons_self, fun u hu => List.mem_append_left _ hu⟩
        · obtain ⟨q', y', h1, h2, h3⟩ := evTails_mem hy p hp
          exact ⟨q', y', h1, List.mem_cons_of_mem _ h2, fun u hu => List.mem_append_right _ (h3 u hu)⟩
section
variable {c : Cfg} {lim : Nat}
theorem post_row {ρ : Ren} {h H h' : Heap} {w w' : World} {v v' : V} {e : Ending} (RH : RelH c ρ h w) (hL : c.L ≤ lim) (hl : lim ≤ h.length) {N0 : List V} (hr : rowOut h.length N0 v H = some (v', h')) (hp : Post c lim ρ h w v H e w') : Post c lim ρ h w v' h' e w' := by
  unfold rowOut at hr
  split at hr
  · rename_i b k
    split at hr
    · rename_i N U own hN
      split at hr
      · rename_i hc
        obtain ⟨hb, hc, hun, hnl, heq⟩ := hc
        obtain rfl := rowEq_ok heq
        simp only [Option.some.injEq, Prod.mk.injEq] at hr
        obtain ⟨rfl, rfl⟩ := hr
        obtain ⟨ρ', h1, h2, R, F, h5⟩ := hp
        have hn : (H.take h.length).length = h.length := by rw [List.length_take]; omega
        have hlen : (H.take h.length ++ [some (Blk.cells N U own)]).length = h.length + 1 := by simp [hn]
        have hget : ∀ {i : Nat} {X : Blk}, (H.take h.length ++ [some (Blk.cells N U own)])[i]? = some (some X) → (i < h.length ∧ H[i]? = some (some X)) ∨ (i = h.length ∧ X = .cells N U own) := fun {i X} hi => by
          rcases get_push hi with ⟨q1, q2⟩ | ⟨q1, q2⟩
          · rw [hn] at q1
            rw [List.getElem?_take, if_pos q1] at q2
            exact .inl ⟨q1, q2⟩
          · rw [hn] at q1
            cases q2
            exact .inr ⟨q1, rfl⟩
        have hlo : ∀ i, i < h.length → (ρ'.push h.length (ρ'.blk b)).blk i = ρ'.blk i := fun i hi => push_old hi
        have cellN : BlkOk c.P (ρ'.push h.length (ρ'.blk b)) (ρ'.blk b) w' (.cells N U own) := (R.cell b _ hN).move (n := 0) hun (fun i hi => by omega) (fun _ => rfl)
        have src : ∀ {i : Nat} {X : Blk}, (H.take h.length ++ [some (Blk.cells N U own)])[i]? = some (some X) → ∃ j, H[j]? = some (some X) ∧ (ρ'.push h.length (ρ'.blk b)).blk i = ρ'.blk j ∧ (i < h.length → j = i) ∧ (i = h.length → j = b) := fun {i X} hi => by
          rcases hget hi with ⟨q1, q2⟩ | ⟨rfl, rfl⟩
          · exact ⟨i, q2, hlo i q1, fun _ => rfl, fun e => by omega⟩
          · exact ⟨b, hN, push_new, fun e => by omega, fun _ => rfl⟩
        refine ⟨ρ'.push h.length (ρ'.blk b), h1, ?_, ⟨fun i B hi => ?_, fun i j hi hj he => ?_, fun i B hi => ?_, fun p hp => ?_, by rw [hlen]; omega, fun i hi => ?_⟩, ⟨F.os, F.tape, F.output, F.size, F.blk, fun i hi => by rw [hlo i hi]; exact F.ren i hi, by rw [hlen]; omega, fun i hi hw => ?_, fun i hi hw => ?_⟩, by rw [hlen]; simp [V.under]⟩
        · rw [h2]; simp only [V.conc, push_new]
        · rcases hget hi with ⟨q1, q2⟩ | ⟨rfl, rfl⟩
          · rw [hlo i q1]
            exact (R.cell i B q2).move (cleanH_ok _ _ hc i B q1 q2) (fun j hj => hlo j hj) (fun _ => rfl)
          · rw [push_new]
            exact cellN
        · obtain ⟨C, a1, a2, a3⟩ := hi
          obtain ⟨D, b1, b3⟩ := hj
          obtain ⟨x, x1, x2, x3, x4⟩ := src a1
          obtain ⟨y, y1, y2, y3, y4⟩ := src b1
          rw [x2] at a3 he
          rw [y2] at b3 he
          have e0 := R.inj x y ⟨C, x1, a2, a3⟩ ⟨D, y1, b3⟩ he
          rcases hget a1 with ⟨q1, _⟩ | ⟨q1, _⟩ <;> rcases hget b1 with ⟨k1, _⟩ | ⟨k1, _⟩
          · have := x3 q1; have := y3 k1; omega
          · have := x3 q1; have := y4 k1; omega
          · have := x4 q1; have := y3 k1; omega
          · omega
        · rw [hlen]
          rcases hget hi with ⟨q1, q2⟩ | ⟨rfl, rfl⟩
          · exact Blk.under_mono (by omega) _ (cleanH_ok _ _ hc i B q1 q2)
          · exact unders_mono (by omega) _ hun
        · obtain ⟨g1, g2, g3⟩ := R.glob p hp
          have g4 := (RH.glob p hp).2.2
          rw [hlo _ g4, hlen]
          exact ⟨g1, g2, by omega⟩
        · rw [List.getElem?_append_left (by rw [hn]; omega), List.getElem?_take, if_pos (by omega)]
          exact R.base i hi
        · obtain ⟨C, a1, a2, a3⟩ := hw
          rcases hget a1 with ⟨q1, _⟩ | ⟨rfl, hX⟩
          · omega
          · rw [push_new] at a3 ⊢
            subst hX
            exact F.fresh b hb ⟨_, hN, a2, a3⟩
        · obtain ⟨C, a1, a2, a3⟩ := hw
          rcases hget a1 with ⟨q1, q2⟩ | ⟨rfl, _⟩
          · rw [hlo i q1] at a3
            exact F.dead i hi ⟨C, q2, a2, a3⟩
          · omega
      · cases hr
    · cases hr
  · cases hr
theorem ents_bz : ∀ {ks vs : List Value} {bs : List Nat}, ks.length = vs.length → ks.length = bs.length → (mapEnts ks vs bs).map (·.born) = bs ∧ (mapEnts ks vs bs).map (fun x => (x.key, x.val)) = ks.zip vs
  | [], [], [], _, _ => ⟨rfl, rfl⟩
  | [], _ :: _, _, h, _ => by simp at h
  | [], [], _ :: _, _, h => by simp at h
  | _ :: _, [], _, h, _ => by simp at h
  | _ :: _, _ :: _, [], _, h => by simp at h
  | k :: ks, v :: vs, b :: bs, h1, h2 => by
    obtain ⟨e1, e2⟩ := ents_bz (ks := ks) (vs := vs) (bs := bs) (by simpa using h1) (by simpa using h2)
    have ee : mapEnts (k :: ks) (v :: vs) (b :: bs) = ⟨k, v, b⟩ :: mapEnts ks vs bs := rfl
    rw [ee]
    simp only [List.map_cons, e1, e2, List.zip_cons_cons, and_self]
theorem part_sound (hm : c.P.follows .mixedOrders = true) {cf : CF} (hcf : CallOk c cf) (hfn : ∀ f, c.fns f = true → Callable c.P f) {fi : Nat} {x : Code} {m : MapPart} (hx : mapPart x = some m) (hnr : (rangesIn x).isEmpty = true)
    {t : List V} {h : Heap} {out : Nat → List (List V × Heap) × List Prop} (he : ∀ r, evPart c cf fi r m t h = some (out r)) (hps : ∀ r, ∀ p ∈ (out r).2, p) (hl : lim ≤ h.length)
    {ρ0 : Ren} {h0 : Heap} {a0 : Act} {w0 : World} {ρ : Ren} {a : Act} {w : World} (hln : lim ≤ h0.length) (A : At c lim ρ0 h0 a0 w0 t h ρ a w) {Q : Exit → Act → World → Prop}
    (hQ : ∀ r, ∀ p ∈ (out r).1, ∀ ρ' a' w', At c lim ρ0 h0 a0 w0 p.1 p.2 ρ' a' w' → Q .normal a' w') : x.wpIn (FW none) 0 c.P Q a w := by
  unfold mapPart at hx
  split at hx
  · rename_i i9 ops9 lo i10 ops10 mo lo2 nxl i11 ops11 body
    split at hx
    · rename_i d8 y ty8 p8 a8 it T d9 ty9 p9 a9 nx it2 ty1 p1 a1 mo2 nx2 ty2 p2 a2 pair it3 ty3 p3 a3 rest h9 h10 h11
      split at hx
      · rename_i hc
        obtain ⟨rfl, rfl, rfl, rfl, rfl, rfl, c1, c2, c3, c4, c5⟩ := hc
        simp only [Option.some.injEq] at hx
        subst hx
        have her := he w.heap.size
        have hpr := hps w.heap.size
        have hQr := hQ w.heap.size
        unfold evPart at her
        split at her
        · rename_i bm hy
          split at her
          · rename_i ks vs bs k hma
            split at her
            · rename_i us hus
              split at her
              · rename_i hcond
                obtain ⟨hcond, hitl, hd8l, hLl⟩ := hcond
                simp only [Bool.and_eq_true, List.all_eq_true, decide_eq_true_eq] at hcond
                obtain ⟨⟨hT, hbk⟩, hnd⟩ := hcond
                obtain ⟨hB, l1, l2⟩ := mapAt_ok hma
                obtain ⟨hbn, hw⟩ := A.RH.cell bm _ hB
                have hcv : concs ρ vs = us := raws_concs ρ vs us hus
                rw [hcv] at hw
                have lu : ks.length = us.length := by rw [← hcv, concs_length]; exact l1
                have hylt : (V.mp bm).under h.length = true := by
                  have := lt_len hB
                  simpa [V.under] using this
                have hTT : ∃ kt el, pureRun c.P (underlying T) = some (.map kt el) := by
                  unfold isMapT at hT
                  split at hT
                  · rename_i kt el hk; exact ⟨kt, el, hk⟩
                  · cases hT
                obtain ⟨kt, el, hTT⟩ := hTT
                refine wpIn_seq (wpIn_region_list ?_)
                rw [h9]
                have ey : a.eval y = .map (some (ρ.blk bm).n) := opnd_eval A.RH A.RT hy
                refine wpListIn_plain rfl fun K hK => value_step (v := .map (some (ρ.blk bm).n)) (w' := w) (by intro k; simp) ?_ (hK _ _ ?_)
                · generalize a.eval = g at ey ⊢
                  simp [execOp, ey, go_sem]
                · have A1 := A.put hylt (some d8)
                  have e8 : (a.put (some d8) (.map (some (ρ.blk bm).n))).eval (.tmp d8) = .map (some (ρ.blk bm).n) := eval_put_self (by rw [A.RT.tmps]; simpa [concs_length] using hd8l)
                  have r0 := pureRun_run hTT w
                  have hg : (getObj (ρ.blk bm).n).run c.P w = .ok (.map (mapEnts ks us bs).toArray k) w := by simp [getObj, Sem.run, hw]
                  refine wpListIn_plain rfl fun K2 hK2 => value_step (v := .pointer (some ⟨w.heap.size, 0, none⟩)) (w' := w.alloc (.mapIter (some (ρ.blk bm).n) k #[] k)) (by intro k; simp) ?_ (hK2 _ _ (wpListIn_nil ?_))
                  · generalize (a.put (some d8) (.map (some (ρ.blk bm).n))).eval = g at e8 ⊢
                    simp only [execOp, e8, Instr.range, newObj]
                    generalize underlying T = s at r0 ⊢
                    simp [go_sem, r0, hg]
                    try rfl
                  · have A2 : At c lim ρ0 h0 a0 w0 (putT t (some d8) (.mp bm)) h ρ (a.put (some d8) (.map (some (ρ.blk bm).n))) (w.alloc (.mapIter (some (ρ.blk bm).n) k #[] k)) := A1.turn (r := w.heap.size) A.F.size (fun i B hi hn e0 => by have := A.RH.lt ⟨B, hi, hn⟩; omega) (fun x e0 => by simp at e0) rfl rfl rfl (by simp) (fun j _ hj => Below.heap_alloc _ _ _ hj)
                    have A3 := A2.put (v := ptrR w.heap.size) rfl (some it)
                    obtain ⟨z1, z2⟩ := ents_bz (vs := us) (bs := bs) lu l2
                    have zl : (mapEnts ks us bs).length = ks.length := by
                      have := congrArg List.length z1
                      rw [List.length_map] at this
                      omega
                    have hmlt : (ρ.blk bm).n < w.heap.size := (Array.getElem?_eq_some_iff.1 hw).1
                    refine wpIn_block (wpIn_loop_rounds (ks.length + 1) (tree_sound (lim := lim) (m := ⟨d8, y, it, T, lo, nx, mo, nxl, ops11, pair, rest, body⟩) (A0 := mapEnts ks us bs) (clock := k) (m0 := (ρ.blk bm).n) hm hcf hfn (lim1 := h.length) hLl hl ?_ (fun j x hj => ?_) (fun x hxm => ?_) (by rw [z1]; exact nodupB_ok hnd) (lt_len hB) h10 h11 c2 c3 c5 hln A.F.size _ _ _ _ _ her hpr (Nat.le_refl _) ?_ (by rw [hma]; rfl) ρ _ _ A3 hbn rfl ⟨?_, #[], k, alloc_this _ _, Nat.le_refl _, fun j => ?_⟩ _ fun p hp ρ' a' w' A' => ?_))
                    · simp only [rangesIn] at hnr
                      simpa using hnr
                    · have := congrArg (fun l => l[j]?) z2
                      simp only [List.getElem?_map, hj, Option.map_some] at this
                      exact this.symm
                    · have : x.born ∈ bs := by rw [← z1]; exact List.mem_map.2 ⟨x, hxm, rfl⟩
                      exact hbk _ this
                    · simp only [putT, getR_eq, setR_eq]
                      rw [List.getElem?_set_self (by simpa using hitl)]
                    · rw [Below.heap_alloc _ _ _ hmlt]
                      exact hw
                    · rw [List.mem_range]
                      constructor
                      · intro hj
                        exact ⟨(mapEnts ks us bs)[j], List.getElem?_eq_getElem (by omega), by simp⟩
                      · rintro ⟨e, he, _⟩
                        have := (List.getElem?_eq_some_iff.1 he).1
                        omega
                    · simp only [Exit.inBlock, if_true]
                      exact hQr p hp ρ' a' w' A'
              · cases her
            · cases her
          · cases her
        · cases her
      · cases hx
    · cases hx
  · cases hx
theorem withP_some {α : Type} {ps : List Prop} {x : Option (List α × List Prop)} {y : List α × List Prop} (h : withP ps x = some y) : ∃ z, x = some z ∧ y = (z.1, ps ++ z.2) := by
  cases x with
  | none => simp [withP] at h
  | some z => simp only [withP, Option.some.injEq] at h; exact ⟨z, rfl, h.symm⟩
theorem evN_sound (hm : c.P.follows .mixedOrders = true) {cf : CF} (hcf : CallOk c cf) (hfn : ∀ f, c.fns f = true → Callable c.P f) (hL : c.L ≤ lim) {fi n : Nat} {N0 : List V} {res : List ResultVar} {qs : List (List Ans)}
    {ρ0 : Ren} {h0 : Heap} {a0 : Act} {w0 : World} (hln : lim ≤ h0.length) :
    ∀ (code : Code) (t : List V) (h : Heap) (ans : List Ans) (out : Nat → List (V × Heap) × List Prop), (∀ r, evN c cf lim fi r n N0 res qs code t h ans = some (out r)) → (∀ r, ∀ p ∈ (out r).2, p) → lim ≤ h.length → (rangesIn code).isEmpty = true →
      ∀ ρ a w, At c lim ρ0 h0 a0 w0 t h ρ a w → ∀ Q : Exit → Act → World → Prop,
        (∀ r, ∀ z ∈ (out r).1, ∀ x ρ' a' w' T H vs, (x = Exit.normal ∨ x = Exit.ret) → At c lim ρ0 h0 a0 w0 T H ρ' a' w' → resultsV c T H res = some vs → rowOut n N0 (oneOf vs) H = some z → Q x a' w') → code.wpIn (FW none) 0 c.P Q a w := by
  intro code
  induction code with
  | seq x y ihx ihy =>
    intro t h ans out he hps hl hnr ρ a w A Q hQ
    have hnx : (rangesIn x).isEmpty = true ∧ (rangesIn y).isEmpty = true := by simpa [rangesIn] using hnr
    cases hx : mapPart x with
    | some m =>
      have hE : ∀ r, ∃ l, evPart c cf fi r m t h = some l ∧ ∃ z, evTails (evTail c cf lim fi n N0 res y) l.1 qs = some z ∧ out r = (z.1, l.2 ++ z.2) := fun r => by
        have := he r
        simp only [evN, hx] at this
        split at this
        · cases this
        · rename_i l hl'
          obtain ⟨z, z1, z2⟩ := withP_some this
          exact ⟨l, hl', z, z1, z2⟩
      let l : Nat → List (List V × Heap) × List Prop := fun r => Classical.choose (hE r)
      have hl1 : ∀ r, evPart c cf fi r m t h = some (l r) := fun r => (Classical.choose_spec (hE r)).1
      have hl2 : ∀ r, ∃ z, evTails (evTail c cf lim fi n N0 res y) (l r).1 qs = some z ∧ out r = (z.1, (l r).2 ++ z.2) := fun r => (Classical.choose_spec (hE r)).2
      refine wpIn_seq (part_sound (out := l) hm hcf hfn hx hnx.1 hl1 (fun r p hp => ?_) hl hln A fun r p hp ρ' a' w' A' => ?_)
      · obtain ⟨z, _, z2⟩ := hl2 r
        exact hps r p (by rw [z2]; exact List.mem_append_left _ hp)
      · obtain ⟨z, z1, z2⟩ := hl2 r
        obtain ⟨q, u, h1, h2, h3⟩ := evTails_mem z1 p hp
        show y.wpIn _ _ _ Q a' w'
        unfold evTail at h1
        split at h1
        · cases h1
        · rename_i o ho
          split at h1
          · cases h1
          · rename_i hend
            split at h1
            · cases h1
            · rename_i vs hvs
              split at h1
              · cases h1
              · rename_i z0 hz0
                simp only [Option.some.injEq] at h1
                subst h1
                have hlp : lim ≤ p.2.length := Nat.le_trans hln A'.F.len
                have hrun := evCode_sound hm hcf hfn hL (rnd := none) (fi := fi) y 0 _ _ _ _ ho (fun v hv => hps r v (by rw [z2]; exact List.mem_append_right _ (h3 v hv))) hlp (fun b e => by cases e) (noRanges hnx.2)
                refine A'.go hln (Nat.le_refl _) hrun fun ρ7 a7 w7 A7 F7 => ?_
                refine hQ r z0 (by rw [z2]; exact h2) o.e.to ρ7 a7 w7 o.t o.h vs ?_ A7 hvs hz0
                cases hoe : o.e with
                | normal => exact .inl rfl
                | ret => exact .inr rfl
                | exit i => rw [hoe] at hend; simp [ends] at hend
    | none =>
      have he' : ∀ r, (match evCode c cf lim none fi x 0 t h ans with
        | none => none
        | some o => match o.e with
          | .normal => withP o.cons (evN c cf lim fi r n N0 res qs y o.t o.h o.ans)
          | _ => none) = some (out r) := fun r => by
        have := he r
        simp only [evN, hx] at this
        exact this
      cases ho : evCode c cf lim none fi x 0 t h ans with
      | none => have := he' 0; rw [ho] at this; cases this
      | some o =>
        cases hoe : o.e with
        | exit i => have := he' 0; rw [ho] at this; simp only [hoe] at this; cases this
        | ret => have := he' 0; rw [ho] at this; simp only [hoe] at this; cases this
        | normal =>
          have hE : ∀ r, ∃ z, evN c cf lim fi r n N0 res qs y o.t o.h o.ans = some z ∧ out r = (z.1, o.cons ++ z.2) := fun r => by
            have := he' r
            rw [ho] at this
            simp only [hoe] at this
            exact withP_some this
          let l : Nat → List (V × Heap) × List Prop := fun r => Classical.choose (hE r)
          have hl1 : ∀ r, evN c cf lim fi r n N0 res qs y o.t o.h o.ans = some (l r) := fun r => (Classical.choose_spec (hE r)).1
          have hl2 : ∀ r, out r = ((l r).1, o.cons ++ (l r).2) := fun r => (Classical.choose_spec (hE r)).2
          have hrun := evCode_sound hm hcf hfn hL (rnd := none) (fi := fi) x 0 _ _ _ _ ho (fun v hv => hps 0 v (by rw [hl2 0]; exact List.mem_append_left _ hv)) hl (fun b e => by cases e) (noRanges hnx.1)
          rw [hoe] at hrun
          refine wpIn_seq (A.go hln (Nat.le_refl _) hrun fun ρ7 a7 w7 A7 F7 => ?_)
          show y.wpIn _ _ _ Q a7 w7
          exact ihy _ _ _ l hl1 (fun r p hp => hps r p (by rw [hl2 r]; exact List.mem_append_right _ hp)) (Nat.le_trans hl F7.len) hnx.2 ρ7 a7 w7 A7 Q (fun r z hz => hQ r z (by rw [hl2 r]; exact hz))
  | _ =>
    intro t h ans out he
    have := he 0
    simp [evN] at this
theorem meets_any (hm : c.P.follows .mixedOrders = true) (hfn : ∀ f, c.fns f = true → Callable c.P f) (hL : c.L ≤ lim) {n k : Nat} {f : FuncId} {args : List V} {h h' : Heap} (hl : lim ≤ h.length) {ans : List Ans} {qs : List (List Ans)} {N0 : List V} {v : V} {ps : Nat → List Prop}
    (he : ∀ r, evAny c n f args h lim r N0 ans qs = some (List.replicate k (v, h'), ps r)) (hp : ∀ r, Paid (ps r)) : Meets c lim f args h v h' := by
  intro ρ w RH hu
  have hcf := evYlds_sound (c := c) hm hfn (call := evFunc c n) (fun f args h lim ans out => evFunc_sound hm hfn n f args h lim ans out) 3
  unfold evAny at he
  cases hf : c.P.funcs[f]? with
  | none => have := he 0; rw [hf] at this; cases this
  | some fn =>
    cases hb : fn.body with
    | none => have := he 0; rw [hf] at this; simp only [hb] at this; cases this
    | some code =>
      cases hnr : (rangesIn code).isEmpty with
      | false => have := he 0; rw [hf] at this; simp only [hb, hnr] at this; cases this
      | true =>
        have he' : ∀ r, evN c ⟨evFunc c n, evYlds c (evFunc c n) 3⟩ lim f r h.length N0 fn.results.toList qs code (args ++ List.replicate (fn.ntmps - args.length) (.raw undef)) h ans = some (List.replicate k (v, h'), ps r) := fun r => by
          have := he r
          rw [hf] at this
          simp only [hb, hnr] at this
          exact this
        have htm : (concs ρ args).toArray ++ Array.replicate (fn.ntmps - (concs ρ args).toArray.size) undef = (concs ρ (args ++ List.replicate (fn.ntmps - args.length) (.raw undef))).toArray := by
          apply Array.toList_inj.1
          simp [concs_map, V.conc]
        refine (callsIn_wide (n := 0)).1 (callsIn_of_wp_marks hf hb trivial ?_)
        rw [htm]
        refine evN_sound hm hcf hfn hL hl code _ h ans (fun r => (List.replicate k (v, h'), ps r)) he' (fun r => (hp r).all) hl hnr ρ _ w (ρ0 := ρ) (w0 := w) (a0 := ⟨#[], []⟩) ⟨⟨rfl, fun x hx => ?_⟩, RH, Fr.refl _ _ _ _ hl (Nat.le_refl _), [], rfl, Marks.nil⟩ _ fun r z hz x ρ1 a1 w1 T H vs hx A1 hvs hrow => ?_
        · rcases List.mem_append.1 hx with h1 | h1
          · exact V.slot_of_under _ ((unders_iff _ _).1 hu x h1)
          · rw [List.eq_of_mem_replicate h1]; rfl
        · have hzz := List.eq_of_mem_replicate hz
          subst hzz
          obtain ⟨ms, d1, Ds, rfl, m2, m3⟩ := A1.M
          simp only [List.append_nil] at d1
          have out1 : LeavesInM Fence.wide 0 c.P fn a1.tmps (Post c lim ρ h w v h') (Ds.map markOf) .returning w1 := by
            refine leaves_marks Ds w1 m2 m3 A1.RH A1.F fun w' RH' F' => ?_
            obtain ⟨h1, h2⟩ := results_ok RH' A1.RT hvs
            exact ⟨_, h1, post_row RH hL hl hrow ⟨⟨ρ1.blk, ρ.unk⟩, rfl, by rw [V.conc_agree (ρ := ρ1) (ρ' := ⟨ρ1.blk, ρ.unk⟩) (fun _ _ => rfl) _ h2], relH_unk RH' _, F'.unk _, h2⟩⟩
          rcases hx with rfl | rfl
          · show LeavesInM _ _ _ _ _ _ a1.defers _ _
            rw [d1]
            exact out1
          · show LeavesInM _ _ _ _ _ _ a1.defers _ _
            rw [d1]
            exact out1
end
end
end Go.Proofs.YtkkgmodladgonaaDoor.E2
end
section
set_option maxRecDepth 100000
namespace Go.Proofs.YtkkgmodladgonaaDoor
open Go Go.RowKit Go.Proofs.YtkkgmodladgonaaDoor.E2
def gainsL : List Value := [.int .i64 10, .int .i64 9, .int .i64 8, .int .i64 7, .int .i64 6, .int .i64 6, .int .i64 5, .int .i64 5, .int .i64 4, .int .i64 4, .int .i64 3, .int .i64 3, .int .i64 3, .int .i64 2, .int .i64 2, .int .i64 2, .int .i64 1, .int .i64 1, .int .i64 1, .int .i64 1]
theorem gains_at {W : World} (h : laidMetH Tryd.prog Rows.indexKnownRow.laid W) : ∃ T, ∀ ρ, CellsOk ρ (E2.Loc.at 0) W (gainsL.map .raw) T .ro :=
  laid_block h (by kernel_rfl) 0 (g := 0) (t := 78) rfl (by kernel_rfl) (by kernel_rfl) (by kernel_rfl)
theorem up_lC {gs : List Nat} {l : List (List Value × TypeId)} (hgl : gs.length = l.length) {lim : Nat} {f : FuncId} {args : List V} {h N : Heap} {v : V} (hm : Meets cfxC lim f args h v (h ++ N)) : Meets (cfxlC gs l) lim f args h v (h ++ N) := by
  intro ρ w R hu
  have R0 : RelH cfxC ρ h w := ⟨R.cell, R.inj, R.sco, fun p hp => (by cases hp), Nat.zero_le _, fun i hi => absurd hi (Nat.not_lt_zero _)⟩
  refine Calls.mono (hm ρ w R0 hu) fun e w' ⟨ρ', h1, h2, S, F, h5⟩ => ⟨ρ', h1, h2, ⟨S.cell, S.inj, S.sco, fun p hp => ?_, ?_, fun i hi => ?_⟩, F, h5⟩
  · obtain ⟨a1, a2, a3⟩ := R.glob p hp
    have e2 : ρ'.blk p.2 = ρ.blk p.2 := F.ren _ a3
    exact ⟨by rw [e2]; exact a1, by rw [e2]; exact a2, by simp; omega⟩
  · have := R.big
    simp only [List.length_append]
    omega
  · have := R.big
    rw [List.getElem?_append_left (by omega)]
    exact R.base i hi
theorem retRow_of {gs : List Nat} {l : List (List Value × TypeId)} (hgl : gs.length = l.length) {f : FuncId} {A N : List V} {T U : TypeId} {k n sz : Nat}
    (hm : Meets cfxC 0 f [.slo 0 k] [some (.cells A T .ro)] (.slo 1 n) ([some (.cells A T .ro)] ++ [some (.cells N U (.row sz))])) (hA : A.all isRawV = true) (hN : N.all isRawV = true) : RetRow (cfxlC gs l) f A T k N U sz n := by
  intro h lim b o hL hl hb
  have := below1 (c := cfxC) (lim := lim) rfl rfl (N := [some (.cells N U (.row sz))]) b hm hA rfl (fun k X hX => by
    cases k with
    | zero =>
      simp only [List.getElem?_cons_zero, Option.some.injEq] at hX
      subst hX
      exact ⟨rfl, N, U, .row sz, rfl, hN⟩
    | succ k => simp at hX) hb hl
  exact up_lC hgl this
end Go.Proofs.YtkkgmodladgonaaDoor
end
section
set_option maxRecDepth 100000
namespace Go.Proofs.YtkkgmodladgonaaDoor
open Go Go.RowKit Go.Proofs.YtkkgmodladgonaaDoor.E2
def shA : List V := [.raw (.int .i64 1), .raw (.int .i64 0), .raw (.int .i64 5), .raw (.bool false), .raw (.string ⟨#[97, 110, 110]⟩), .raw (.string ⟨#[98, 111, 98]⟩), .raw (.bool true), .raw (.int .i64 26), .raw (.int .i64 20), .raw (.int .i64 2), .raw (.int .i64 0), .raw (.int .i64 6), .raw (.bool false), .raw (.string ⟨#[98, 111, 98]⟩), .raw (.string ⟨#[99, 97, 116]⟩), .raw (.bool true), .raw (.int .i64 26), .raw (.int .i64 3), .raw (.int .i64 3), .raw (.int .i64 0), .raw (.int .i64 7), .raw (.bool false), .raw (.string ⟨#[99, 97, 116]⟩), .raw (.string ⟨#[97, 110, 110]⟩), .raw (.bool true), .raw (.int .i64 26), .raw (.int .i64 25)]
def BooksM : Prop := Meets cfxC 0 37 [.slo 0 3] [some (.cells shA 68 .ro)] (.slo 1 3) ([some (.cells shA 68 .ro)] ++ [some (.cells shA 68 (.row 9))])
theorem books_row (hm : BooksM) {gs : List Nat} {l : List (List Value × TypeId)} (hgl : gs.length = l.length) : RetRow (cfxlC gs l) 37 shA 68 3 shA 68 9 3 :=
  retRow_of hgl hm (by kernel_rfl) (by kernel_rfl)
end Go.Proofs.YtkkgmodladgonaaDoor
end
section
set_option maxRecDepth 100000
namespace Go.Proofs.YtkkgmodladgonaaDoor
open Go Go.RowKit Go.Proofs.YtkkgmodladgonaaDoor.E2
def booksQ : List (List Ans) := [[.auto [] []], [.auto [[],[],[(15,32),(17,32)]] []], [.auto [[],[(15,32),(17,32)]] []], [.auto [[],[],[(15,32),(17,32)],[],[(15,32),(17,32)]] []], [.auto [[],[(15,32),(17,32)],[],[],[(15,32),(17,32)]] []], [.auto [[],[(15,32),(17,32)],[],[],[(15,32),(17,32)],[],[(15,32),(17,32)]] []]]
theorem books_1 (r : Nat) : (evAny cfxC 40 37 [.slo 0 3] [some (.cells shA 68 .ro)] 0 r shA [.auto [] []] booksQ).map (fun o => o.1) = some (List.replicate 6 (.slo 1 3, [some (.cells shA 68 .ro), some (.cells shA 68 (.row 9))])) := by kernel_rfl
theorem books_2 (r : Nat) : (evAny cfxC 40 37 [.slo 0 3] [some (.cells shA 68 .ro)] 0 r shA [.auto [] []] booksQ).map (fun o => o.2) = some (List.replicate 15 (some (ptrR r) = some (ptrR r))) := by kernel_rfl
theorem both_of {x : Option (List (V × Heap) × List Prop)} {a : List (V × Heap)} {b : List Prop} (h1 : x.map (fun o => o.1) = some a) (h2 : x.map (fun o => o.2) = some b) : x = some (a, b) := by
  cases x with
  | none => cases h1
  | some x => cases h1; cases h2; rfl
theorem books_e (r : Nat) : (evAny cfxC 40 37 [.slo 0 3] [some (.cells shA 68 .ro)] 0 r shA [.auto [] []] booksQ) = some (List.replicate 6 (.slo 1 3, [some (.cells shA 68 .ro), some (.cells shA 68 (.row 9))]), List.replicate 15 (some (ptrR r) = some (ptrR r))) := both_of (books_1 r) (books_2 r)
theorem books_p (r : Nat) : Paid (List.replicate 15 (some (ptrR r) = some (ptrR r))) := by simp only [List.replicate, Paid, and_self]
theorem books_m : BooksM :=
  @meets_any cfxC 0 cfxW_mixed cfxW_call (Nat.le_refl _) 40 6 37 [.slo 0 3] [some (.cells shA 68 .ro)] [some (.cells shA 68 .ro), some (.cells shA 68 (.row 9))] (Nat.zero_le _) [.auto [] []] booksQ shA (.slo 1 3) (fun r => List.replicate 15 (some (ptrR r) = some (ptrR r))) books_e books_p
end Go.Proofs.YtkkgmodladgonaaDoor
end
section
set_option maxRecDepth 100000
namespace Go.Proofs.YtkkgmodladgonaaDoor
open Go Go.RowKit Go.Proofs.YtkkgmodladgonaaDoor.E2
theorem known10_c (hm : BooksM) (T : TypeId) : Ret (cfxlC [0] [(gainsL, T)]) 5 [] (.raw (.bool true)) :=
  have hb := cfxlC_base (gs := [0]) (l := [(gainsL, T)]) rfl
  fn_of (c := cfxlC [0] [(gainsL, T)]) cfxlC_mixed cfxlC_call hb.1 hb.2.1 hb.2.2 (n := 60) (ans := [.auto [[(11,4)],[(7,8)],[(7,20),(8,22)],[],[],[],[],[],[(2,10),(3,12)],[],[],[],[(11,90)],[(9,74)],[],[(11,94)],[(9,74)],[],[(11,98)],[(9,74)],[],[],[],[(15,74),(17,74)],[],[],[],[],[],[(13,102),(14,104)],[(7,116),(8,118)],[],[],[],[],[(2,106),(3,108)],[],[],[],[(11,170)],[(9,154)],[],[(11,174)],[(9,154)],[],[(11,178)],[(9,154)],[],[],[],[(15,154),(17,154)]] [(37, .fn (.func 68) shA [.slo 9 3]), (37, .fn (.func 68) shA [.slo 9 3])]]) (cons := [RetRow (cfxlC [0] [(gainsL, T)]) 37 shA 68 3 shA 68 9 3, RetRow (cfxlC [0] [(gainsL, T)]) 37 shA 68 3 shA 68 9 3]) (by kernel_rfl) rfl rfl ⟨books_row hm rfl, books_row hm rfl, trivial⟩
end Go.Proofs.YtkkgmodladgonaaDoor
end
section
namespace Go.Proofs.YtkkgmodladgonaaDoor
open Go Go.ChangeShapes Go.WideShapes Go.ChangeAt Go.RowKit Go.Proofs.YtkkgmodladgonaaDoor.E2
theorem own : ownKnob Tryd.prog.godebug = none := by kernel_rfl
theorem laidOut : laidOutB Tryd.prog = true := by kernel_rfl
noncomputable def laidWorld (os : Os) : World :=
  { World.holding Tryd.prog os ⟨#[], #[], []⟩ with heap := (World.holding Tryd.prog os ⟨#[], #[], []⟩).heap.modify 0 fun
      | .cells _ t frozen => .cells gainsL.toArray t frozen
      | o => o }
theorem calls_laid0 {f : FuncId} {x : Value} (hr : ∀ T, Ret (cfxlC [0] [(gainsL, T)]) f [] (.raw x)) {W : World} (hL : laidMetH Tryd.prog Rows.indexKnownRow.laid W) : Calls Tryd.prog f #[] W fun e W' => e = .returned x ∧ Below W.heap.size W W' := by
  obtain ⟨T, hT⟩ := gains_at hL
  refine calls_laid (c := cfxlC [0] [(gainsL, T)]) (l := [(gainsL, T)]) (gs := [0]) (args := []) rfl rfl rfl rfl (hr T) W fun i p g hi hg ρ => ?_
  cases i with
  | zero =>
    simp only [List.getElem?_cons_zero, Option.some.injEq] at hi hg
    subst hi
    subst hg
    exact hT ρ
  | succ i => simp at hi
end Go.Proofs.YtkkgmodladgonaaDoor
end
section
namespace Go.Proofs.YtkkgmodladgonaaDoor
open Go Go.ChangeShapes Go.WideShapes Go.ChangeAt Go.RowKit Go.Proofs.YtkkgmodladgonaaDoor.E2
namespace indexKnown
theorem readable : ∀ t ∈ Tryd.f5.params.toList, Tryd.prog.readableRec t = true ∧ t < Tryd.prog.types.size := fun t ht => by
  have h := List.all_eq_true.1 (show (Tryd.f5.params.toList.all fun t => Tryd.prog.readableRec t && decide (t < Tryd.prog.types.size)) = true by kernel_rfl) t ht
  rw [Bool.and_eq_true, decide_eq_true_eq] at h
  exact h
theorem contract (H : Type) (enc : TypeId × Value → H) (W : World) (base : Nat) (args : Array Value) (ds gs : List (DataW H)) (before : List MemPlace)
    (hval : ∀ (j : Nat) t v, Tryd.f5.params[j]? = some t → args[j]? = some v → Value.okWide Tryd.prog W .any base t v)
    (hW : DataW.Whole enc Tryd.prog Tryd.f5.params.toList Rows.indexKnownSpec.vars false W args.toList ds gs before) (hL : laidMetH Tryd.prog Rows.indexKnownRow.laid W) :
    Calls Tryd.prog 5 args W fun e W' => ∃ v, e = .returned v ∧ Rows.indexKnownSpec.post enc Tryd.prog Tryd.f5 false true false false W args v W' := by
  have hW' := hW
  obtain ⟨p, q, hA0, hV, rfl, hfz, hnd⟩ := hW
  have hA : DataW.TrodAll enc Tryd.prog W 0 (fun _ => true) true Tryd.f5.params.toList args.toList ds p := hA0
  rw [Tryd.params5] at hA hval
  obtain ⟨hargs, rfl, rfl⟩ := trodAll_nil hA
  obtain rfl : args = #[] := by cases args; simp_all
  obtain ⟨rfl, rfl⟩ := trodVars_none hV
  
  clear hA0
  have hR := calls_laid0 (f := 5) (x := .bool true) (known10_c books_m) hL
  refine Calls.mono hR fun e W' hw => ?_
  exact ⟨_, hw.1, K.law_post laidOut readable (by kernel_rfl) Tryd.underlying4 rfl hW' rfl hw.2⟩
theorem laid_met (os : Os) : laidMet Tryd.prog Rows.indexKnownRow.laid ((laidWorld os).forCall (fun _ _ => 0) ⟨#[], #[], []⟩).memory :=
  laidMet_of_run' 8 (by kernel_rfl) (by kernel_rfl)
theorem reads (os : Os) {H : Type} (enc : TypeId × Value → H) : ∃ places, DataW.whole enc Tryd.prog ((laidWorld os).forCall (fun _ _ => 0) ⟨#[], #[], []⟩).memory Tryd.f5.params.toList Rows.indexKnownSpec.vars false (#[] : Array Value).toList 8 = some ([], [], places) :=
  ⟨[], by kernel_rfl⟩
theorem lifted (os : Os) (started : os.Started) (H : Type) (enc : TypeId × Value → H) (F : Stop.Interp) :
    ReturnsInHanded {} Tryd.checked os 5 .any ((OpenSpec.ofChange Rows.indexKnownSpec).preRow enc Tryd.prog Tryd.f5 Rows.indexKnownRow.domain false Rows.indexKnownRow.laid) (((OpenSpec.ofChange Rows.indexKnownSpec).at F).post enc Tryd.prog Tryd.f5 false true false false) := by
  obtain ⟨places, hx⟩ := reads os enc
  refine returnsInHanded_of_row (C := Tryd.checked) (s := OpenSpec.ofChange Rows.indexKnownSpec) own started (by kernel_rfl) Tryd.func5
    (witness_row_at (enc := enc) (C := Tryd.checked) false (laidWorld os) #[] rfl (by kernel_rfl) (by kernel_rfl) (by kernel_rfl)
      (OpenSpec.preRow_of_cond 8 hx (by kernel_rfl) (fun k hk => by cases hk) (by kernel_rfl) (laid_met os))) ?_
  intro W base args ds gs before hval hW _ _ _ hL _ _
  exact contract H enc W base args ds gs before hval hW hL
theorem said : Rows.IndexKnownSaid :=
  OpenClaim.holds_of_cond 5 Tryd.f5 rfl rfl rfl rfl rfl rfl rfl ⟨rfl, rfl, rfl, rfl, rfl⟩ rfl rfl rfl rfl rfl (by kernel_rfl) Tryd.func5 (by kernel_rfl)
    (of_decide_eq_true (by kernel_rfl)) (by unfold Func.isWrapper; first | (rw [if_pos (by decide +kernel)]; kernel_rfl) | (rw [if_neg (by decide +kernel)]; exact ⟨rfl, rfl⟩))
    (fun os started H enc _ F => by rw [OpenClaim.pre_eq_preRow]; exact lifted os started H enc F)
theorem plain (f : FuncId) (fn : Func) (hf : Tryd.pinned.checked.prog.funcNamed Tryd.f5.name = some f) (hfn : Tryd.pinned.checked.prog.funcs[f]? = some fn) :
    false = Tryd.pinned.checked.prog.looks [] ∧ ∀ (j : Nat) t, fn.params[j]? = some t → Tryd.pinned.checked.prog.wantsStandIn t = false := by
  obtain rfl : f = 5 := Option.some.inj ((show Tryd.prog.funcNamed Tryd.f5.name = some 5 by kernel_rfl).symm.trans hf) |>.symm
  obtain rfl : fn = Tryd.f5 := (Option.some.inj (Tryd.func5.symm.trans hfn)).symm
  refine ⟨by kernel_rfl, fun j t ht => ?_⟩
  have hm : t ∈ Tryd.f5.params.toList := by simpa using Array.mem_of_getElem? ht
  have hall : (Tryd.f5.params.toList.all fun u => !Tryd.prog.wantsStandIn u) = true := by kernel_rfl
  exact (show Tryd.prog.wantsStandIn t = false by simpa using List.all_eq_true.1 hall t hm)
theorem card : Rows.IndexKnownCardSaid :=
  Claim7.holds_tied_plain_at .later [] _ _ _ _ said (fun _ h => by cases h) (by kernel_rfl) (fun _ h => by cases h) indexKnown_row_tie rfl ⟨rfl, rfl⟩ (by kernel_rfl) rfl plain (by kernel_rfl)
end indexKnown
end Go.Proofs.YtkkgmodladgonaaDoor
end
