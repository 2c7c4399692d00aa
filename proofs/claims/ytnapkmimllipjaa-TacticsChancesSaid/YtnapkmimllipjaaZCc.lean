/-
  For all records and lists of bounds: roquetlaw09.TacticsChances returns true, and leaves its arguments as they were. No condition.
-/
import Derived.Test.YtnapkmimllipjaaZCb
set_option linter.unusedVariables false
set_option linter.unusedSimpArgs false
set_option maxRecDepth 100000
section
namespace Go.Proofs.Ytnapkmimllipjaa.K
open Go Go.Deep Go.ChangeShapes Go.WideShapes Go.ChangeAt Go.RowKit
section
variable {H : Type} {enc : TypeId × Value → H} {P : Program}
theorem trod_stays {t : TypeId} (hl : laidOutB P = true) (hr : P.readableRec t = true) (hrow : t < P.types.size) {W W' : World} {v : Value} {d : DataW H} {ps : List MemPlace} {sp : Nat → Bool}
    (h : DataW.Trod enc P W 0 (fun _ => true) true t v d ps) (hb : Below W.heap.size W W') (hlt : ∀ x ∈ ps, x.block < W.heap.size) (hsp : ∀ x ∈ ps, sp x.block = true) :
    DataW.Trod enc P W' 0 sp true t v d ps :=
  WideElems.Trod_stays hl hr hrow h (fun x hx => hb.same (hlt x hx)) hsp
theorem all_stays (hl : laidOutB P = true) {W W' : World} {sp : Nat → Bool} (hb : Below W.heap.size W W') : ∀ (ts : List TypeId) (vs : List Value) (ds : List (DataW H)) (p : List MemPlace),
    (∀ t ∈ ts, P.readableRec t = true ∧ t < P.types.size) → DataW.TrodAll enc P W 0 (fun _ => true) true ts vs ds p → (∀ x ∈ p, x.block < W.heap.size) → (∀ x ∈ p, sp x.block = true) → DataW.TrodAll enc P W' 0 sp true ts vs ds p
  | [], vs, ds, p, _, h, _, _ => by
    obtain ⟨rfl, rfl, rfl⟩ := trodAll_nil h
    exact trodAll_mk0
  | t :: ts, vs, ds, p, hr, h, hlt, hsp => by
    obtain ⟨v0, vs0, d0, ds0, p0, q0, rfl, rfl, rfl, h0, r0⟩ := trodAll_cons h
    have h1 := hr t List.mem_cons_self
    exact trodAll_cons_mk (trod_stays hl h1.1 h1.2 h0 hb (fun x hx => hlt x (List.mem_append_left _ hx)) (fun x hx => hsp x (List.mem_append_left _ hx)))
      (all_stays hl hb ts vs0 ds0 q0 (fun t ht => hr t (List.mem_cons_of_mem _ ht)) r0 (fun x hx => hlt x (List.mem_append_right _ hx)) (fun x hx => hsp x (List.mem_append_right _ hx)))
theorem law_post {f : Func} {s : ChangeSpec} {tb : TypeId} {W W' : World} {args : Array Value} {ds gs : List (DataW H)} {before : List MemPlace}
    (hl : laidOutB P = true) (hrd : ∀ t ∈ f.params.toList, P.readableRec t = true ∧ t < P.types.size) (hrt : f.resultTypes = #[tb]) (hub : P.underlying tb = some .bool) (hv : s.vars = [])
    (hW : DataW.Whole enc P f.params.toList s.vars false W args.toList ds gs before) (hfn : s.fn H (ds ++ gs) = { results := [.lit (.bool true)], args := ds }) (hb : Below W.heap.size W W') :
    s.post enc P f false true false false W args (.bool true) W' := by
  have hW' := hW
  obtain ⟨p, q, hA, hV, rfl, hz, hn⟩ := hW'
  have hlt : ∀ x ∈ p ++ q, x.block < W.heap.size := fun x hx => hW.lt x hx
  rw [hv] at hV
  obtain ⟨rfl, rfl⟩ := trodVars_none hV
  have hargs : ∀ sp : Nat → Bool, (∀ x ∈ p ++ [], sp x.block = true) → DataW.TrodAll enc P W' 0 sp true f.params.toList args.toList (s.fn H (ds ++ [])).args p := fun sp hsp => by
    rw [hfn]
    exact all_stays hl hb _ _ _ _ hrd hA (fun x hx => hlt x (by simpa using hx)) (fun x hx => hsp x (by simpa using hx))
  have hres : ∀ (b : Nat) (sp : Nat → Bool) (hd : Bool), DataW.TrodAll enc P W' b sp hd f.resultTypes.toList ((Value.bool true).resultList f.resultTypes.size) (s.fn H (ds ++ [])).results [] := fun b sp hd => by
    rw [hfn, hrt]
    exact trodAll_cons_mk (shut_bool hub _) trodAll_mk0
  have hvars : ∀ sp : Nat → Bool, DataW.TrodVars enc P W' sp s.vars (s.fn H (ds ++ [])).vars [] := fun sp => by
    rw [hfn, hv]
    rfl
  have hold : ∀ x ∈ p ++ [], (fun b => decide (b < W.heap.size)) x.block = true := fun x hx => by simpa using hlt x hx
  refine ⟨ds, [], p ++ [], [], p, [], hW, hres _ _ _, hargs _ hold, hvars _, World.keptBut_mono (fun x hx => ⟨hx, ?_⟩) (hb.frame (· ∈ p ++ [])), fun _ => ?_⟩
  · rw [List.mem_append] at hx
    exact Or.inr hx
  · refine ⟨?_, _, _, ([] ++ p) ++ [], ⟨[] ++ p, [], trodAll_append (hargs _ (fun _ _ => rfl)) (hres _ _ _), hvars _, rfl, ?_, ?_⟩, ?_⟩
    · exact ok_one hrt rfl (okWide_bool_mk hub _)
    · intro b off hp
      have hin : MemPlace.cell b off ∈ p ++ [] := by simpa using hp
      rw [hb.frozen (hlt _ hin)]
      exact hz b off hin
    · intro ha
      cases ha
    · intro x hx _
      simpa using hx
end
end Go.Proofs.Ytnapkmimllipjaa.K
end
section
namespace Go.Proofs.Ytnapkmimllipjaa.K
open Go Go.Deep Go.ChangeShapes Go.WideShapes Go.ChangeAt Go.RowKit
def flatFs (P : Program) (rec : TypeId → Option (List (Option IntKind))) : Nat → List Field → Option (List (Option IntKind))
  | _, [] => some []
  | off, f :: fs => match rec f.type with
    | some l => if f.offset = off ∧ P.cellsOf f.type = l.length then (flatFs P rec (off + l.length) fs).map (l ++ ·) else none
    | none => none
def flatK (P : Program) : Nat → TypeId → Option (List (Option IntKind))
  | 0, _ => none
  | d + 1, t => match P.underlying t with
    | some .bool => some [none]
    | some (.int k) => some [some k]
    | some (.struct fs) => match flatFs P (flatK P d) 0 fs.toList with
      | some l => if l.length = P.cellsOf t then some l else none
      | none => none
    | _ => none
def AllOk : List (Option IntKind) → List Value → Prop
  | [], cs => cs = []
  | some k :: l, cs => ∃ n rest, cs = .int k n :: rest ∧ (Lit.int k n).wf = true ∧ AllOk l rest
  | none :: l, cs => ∃ b rest, cs = .bool b :: rest ∧ AllOk l rest
theorem AllOk.append : ∀ {l m : List (Option IntKind)} {cs ds : List Value}, AllOk l cs → AllOk m ds → AllOk (l ++ m) (cs ++ ds)
  | [], m, cs, ds, h, k => by
    have : cs = [] := h
    subst this; exact k
  | some x :: l, m, cs, ds, h, k => by
    obtain ⟨n, rest, rfl, hw, hr⟩ := h
    exact ⟨n, rest ++ ds, rfl, hw, hr.append k⟩
  | none :: l, m, cs, ds, h, k => by
    obtain ⟨n, rest, rfl, hr⟩ := h
    exact ⟨n, rest ++ ds, rfl, hr.append k⟩
theorem AllOk.length : ∀ {l : List (Option IntKind)} {cs : List Value}, AllOk l cs → cs.length = l.length
  | [], cs, h => by
    have : cs = [] := h
    subst this; rfl
  | some x :: l, cs, h => by
    obtain ⟨n, rest, rfl, hw, hr⟩ := h
    simp [hr.length]
  | none :: l, cs, h => by
    obtain ⟨n, rest, rfl, hr⟩ := h
    simp [hr.length]
section
variable {H : Type} {enc : TypeId × Value → H} {P : Program} {w : World} {base : Nat} {spare : Nat → Bool} {held : Bool}
theorem flat_fields {rec : TypeId → Option (List (Option IntKind))} {n : Nat} (hrec : ∀ t l cs x, rec t = some l → DataW.trod enc P w base spare held n t cs = some x → AllOk l cs) (cs : List Value) :
    ∀ (fs : List Field) (off : Nat) (l : List (Option IntKind)), flatFs P rec off fs = some l → off + l.length ≤ cs.length → (∀ f ∈ fs, ∃ x, DataW.trod enc P w base spare held n f.type ((cs.drop f.offset).take (P.cellsOf f.type)) = some x) → AllOk l ((cs.drop off).take l.length)
  | [], off, l, h, hl, hf => by
    simp only [flatFs, Option.some.injEq] at h
    subst h
    simp [AllOk]
  | f :: fs, off, l, h, hl, hf => by
    simp only [flatFs] at h
    split at h
    · rename_i m hm
      split at h
      · rename_i hh
        obtain ⟨h1, h2⟩ := hh
        rw [Option.map_eq_some_iff] at h
        obtain ⟨k, hk, rfl⟩ := h
        obtain ⟨x, hx⟩ := hf f List.mem_cons_self
        rw [h1, h2] at hx
        have a1 := hrec _ _ _ _ hm hx
        have a2 := flat_fields hrec cs fs (off + m.length) k hk (by simp at hl; omega) (fun g hg => hf g (List.mem_cons_of_mem _ hg))
        have e : (cs.drop off).take (m ++ k).length = (cs.drop off).take m.length ++ (cs.drop (off + m.length)).take k.length := by
          rw [List.length_append, List.take_add, List.drop_drop]
        rw [e]
        exact a1.append a2
      · cases h
    · cases h
theorem flat_cells : ∀ (d : Nat) (fuel : Nat) (t : TypeId) (l : List (Option IntKind)) (cs : List Value) (x : DataW H × List MemPlace), flatK P d t = some l → DataW.trod enc P w base spare held fuel t cs = some x → AllOk l cs
  | 0, fuel, t, l, cs, x, h, hx => by simp [flatK] at h
  | d + 1, fuel, t, l, cs, x, h, hx => by
    simp only [flatK] at h
    split at h
    · rename_i hu
      simp only [Option.some.injEq] at h
      subst h
      cases fuel with
      | zero => simp [DataW.trod] at hx
      | succ m =>
        unfold DataW.trod at hx
        rw [hu] at hx
        split at hx <;> simp_all [AllOk]
    · rename_i k hu
      simp only [Option.some.injEq] at h
      subst h
      cases fuel with
      | zero => simp [DataW.trod] at hx
      | succ m =>
        unfold DataW.trod at hx
        rw [hu] at hx
        split at hx <;> simp_all [AllOk]
    · rename_i fs hu
      split at h
      · rename_i m hm
        split at h
        · rename_i hlen
          simp only [Option.some.injEq] at h
          subst h
          obtain ⟨xs, n, _, rfl, hl, hxl, hf⟩ := DataW.trod_struct hu hx
          have := flat_fields (n := n) (fun t l cs x h1 h2 => flat_cells d n t l cs x h1 h2) cs fs.toList 0 m hm (by omega) (fun f hfm => by
            obtain ⟨i, hi⟩ := List.getElem?_of_mem hfm
            have hlt : i < xs.length := by
              have : i < fs.toList.length := by
                rcases Nat.lt_or_ge i fs.toList.length with k | k
                · exact k
                · rw [List.getElem?_eq_none k] at hi; cases hi
              simp at this
              omega
            exact ⟨xs[i], (hf i f (by simpa using hi)).trans (List.getElem?_eq_getElem hlt)⟩)
          rw [List.drop_zero, List.take_of_length_le (by omega)] at this
          exact this
        · cases h
      · cases h
    · cases h
end
end Go.Proofs.Ytnapkmimllipjaa.K
end
section
namespace Go.Proofs.Ytnapkmimllipjaa.K
open Go Go.Deep Go.ChangeShapes Go.WideShapes Go.ChangeAt Go.RowKit
theorem rowAt_le {P : Program} {fits : TypeId → Bool} : ∀ (d : Nat) (e : TypeId) (count off n : Nat), rowAt P fits d e count off n = true → off ≤ count * P.cellsOf e
  | 0, _, _, _, _, h => by simp [rowAt] at h
  | d + 1, e, count, off, n, h => by
    unfold rowAt at h
    dsimp only at h
    split at h
    · cases h
    · rename_i hs
      have e1 : off = off / P.cellsOf e * P.cellsOf e + off % P.cellsOf e := by
        have := Nat.div_add_mod off (P.cellsOf e)
        rw [Nat.mul_comm] at this
        omega
      have hlt : off % P.cellsOf e < P.cellsOf e := Nat.mod_lt _ (by omega)
      rw [Bool.or_eq_true] at h
      rcases h with h | h
      · simp only [Bool.and_eq_true, beq_iff_eq, decide_eq_true_eq] at h
        obtain ⟨⟨h1, h2⟩, _⟩ := h
        have : off / P.cellsOf e * P.cellsOf e ≤ count * P.cellsOf e := Nat.mul_le_mul_right _ (by omega)
        omega
      · simp only [Bool.and_eq_true, decide_eq_true_eq] at h
        have : (off / P.cellsOf e + 1) * P.cellsOf e ≤ count * P.cellsOf e := Nat.mul_le_mul_right _ (by omega)
        rw [Nat.add_mul] at this
        omega
theorem liesAt_le {P : Program} : ∀ (d : Nat) (e : TypeId) (count off : Nat) (u : TypeId) (n : Nat), liesAt P d e count off u n = true → off ≤ count * P.cellsOf e
  | 0, _, _, _, _, _, h => by simp [liesAt] at h
  | d + 1, e, count, off, u, n, h => by
    unfold liesAt at h
    rw [Bool.or_eq_true] at h
    rcases h with h | h
    · exact rowAt_le _ _ _ _ _ h
    · split at h
      · exact liesAt_le d _ _ _ _ _ h
      · cases h
theorem allOk_get : ∀ (n : Nat) (cs : List Value), AllOk (List.replicate n (some .i64)) cs → ∀ j, j < n → ∃ z, cs[j]? = some (.int .i64 z) ∧ (Lit.int .i64 z).wf = true
  | 0, _, _, j, hj => by omega
  | n + 1, cs, h, j, hj => by
    rw [List.replicate_succ] at h
    obtain ⟨z, rest, rfl, hw, hr⟩ := h
    cases j with
    | zero => exact ⟨z, rfl, hw⟩
    | succ j =>
      obtain ⟨y, h1, h2⟩ := allOk_get n rest hr j (by omega)
      exact ⟨y, by simpa using h1, h2⟩
def numOf : Value → Int
  | .int _ z => z
  | _ => 0
section
variable {H : Type} {enc : TypeId × Value → H} {P : Program} {w : World} {base : Nat} {spare : Nat → Bool} {held : Bool}
theorem open_row {r : Reach} {b0 : Nat} {t e : TypeId} {n : Nat} {v : Value} {dd : DataW H} {p : List MemPlace} (hs : P.underlying t = some (.slice e)) (hl : flatK P 9 e = some (List.replicate n (some .i64))) (hc : P.cellsOf e = n) (hn : 0 < n) (hv : Value.okWide P w r b0 t v) (h : DataW.Trod enc P w base spare held t v dd p) :
    ∃ (l : E2.Loc) (m : Nat) (zs : List Int) (T : TypeId), v = E2.slcOf l m ∧ zs.length = m * n ∧ (∀ z ∈ zs, (Lit.int .i64 z).wf = true) ∧ ∀ ρ, E2.CellsOk ρ l w (E2.ints zs) T .ro := by
  obtain ⟨a0, len0, cap0, rfl⟩ := okWide_slice hs hv
  obtain ⟨fuel, hf⟩ := h
  rcases DataW.trod_slice hs hf with ⟨h0, _⟩ | ⟨a, len, cap, elems, rest, k, _, h0, _, hb, hlc, hcm, hlen, hel, _, _⟩
  · have : Value.slice a0 len0 cap0 = .slice none 0 0 := by simpa [Value.cells] using h0
    rw [this]
    exact ⟨⟨0, [], [], 0, true⟩, 0, [], 0, rfl, by simp, fun z hz => (by cases hz), fun ρ => ⟨fun _ => rfl, fun hq => (by cases hq), fun sz hq => (by cases hq)⟩⟩
  · have hvv : Value.slice a0 len0 cap0 = .slice (some a) len cap := by simpa [Value.cells] using h0
    rw [hvv] at hv ⊢
    -- the block
    have hok : w.has P r b0 a e cap := by
      unfold Value.okWide at hv
      rw [hs] at hv
      simp only [Cell.okWide, hs, Cell.ok] at hv
      exact hv.2.2
    obtain ⟨_, hspot, row, size, hsh, hlies⟩ := hok
    obtain ⟨c, fr, hblk, rfl⟩ : ∃ c fr, w.heap[a.block]? = some (.cells c row fr) ∧ size = c.size := by
      unfold World.shape? at hsh
      split at hsh
      · rename_i c elem fr hb
        simp only [Option.some.injEq, Prod.mk.injEq] at hsh
        obtain ⟨rfl, rfl⟩ := hsh
        exact ⟨c, fr, hb, rfl⟩
      · cases hsh
    have hoff : a.off ≤ c.size := Nat.le_trans (liesAt_le _ _ _ _ _ _ hlies) (Nat.div_mul_le_self _ _)
    have hcell : ∀ i j, i < len → j < n → ∃ z, c[a.off + (i * n + j)]? = some (.int .i64 z) ∧ (Lit.int .i64 z).wf = true := by
      intro i j hi hj
      have h1 := hel i hi
      rw [List.getElem?_eq_getElem (by omega)] at h1
      obtain ⟨cs, h2, h3⟩ := Option.bind_eq_some_iff.1 h1
      rw [hc] at h2
      obtain ⟨z, h4, h5⟩ := allOk_get n cs (flat_cells 9 _ _ _ _ _ hl h3) j hj
      obtain ⟨_, _, h6⟩ := World.cells?_some h2
      have h7 := h6 j hj
      rw [Deep.add_add] at h7
      have h8 : w.cell? (a.add (i * n + j)) = c[a.off + (i * n + j)]? := by
        unfold World.cell? Addr.add
        by_cases hz : i * n + j = 0
        · rw [if_pos hz, hblk, hz]; simp [hspot]
        · rw [if_neg hz]; simp [hblk]
      exact ⟨z, by rw [← h8, h7]; exact h4, h5⟩
    have hat : ∀ k, k < len * n → ∃ z, c[a.off + k]? = some (.int .i64 z) ∧ (Lit.int .i64 z).wf = true := by
      intro k hk
      have hi : k / n < len := by rw [Nat.div_lt_iff_lt_mul hn]; exact hk
      have := hcell (k / n) (k % n) hi (Nat.mod_lt _ hn)
      have e1 : k / n * n + k % n = k := by
        have := Nat.div_add_mod k n
        rw [Nat.mul_comm] at this
        exact this
      rwa [e1] at this
    have hfit : a.off + len * n ≤ c.size := by
      rcases Nat.eq_zero_or_pos (len * n) with h0 | h0
      · omega
      · obtain ⟨z, hz, _⟩ := hat (len * n - 1) (by omega)
        have := (Array.getElem?_eq_some_iff.1 hz).1
        omega
    refine ⟨⟨a.block, c.toList.take a.off, c.toList.drop (a.off + len * n), cap, false⟩, len, ((c.toList.drop a.off).take (len * n)).map numOf, row, ?_, ?_, ?_, fun ρ => ⟨fun hq => (by cases hq), fun _ => ⟨fr, ?_, fun hq => absurd rfl hq⟩, fun sz hq => (by cases hq)⟩⟩
    · unfold E2.slcOf
      rw [if_neg (by simp)]
      have e1 : (c.toList.take a.off).length = a.off := by simp; omega
      simp only [e1]
      cases a with
      | mk b o s => simp only at hspot; subst hspot; rfl
    · simp; omega
    · intro z hz
      obtain ⟨u, hu, rfl⟩ := List.mem_map.1 hz
      obtain ⟨k, hk⟩ := List.getElem?_of_mem hu
      rw [List.getElem?_take] at hk
      split at hk
      · rename_i hlt
        obtain ⟨y, h1, h2⟩ := hat k hlt
        rw [List.getElem?_drop, Array.getElem?_toList, h1] at hk
        cases hk
        exact h2
      · cases hk
    · have e2 : E2.concs ρ (E2.ints (((c.toList.drop a.off).take (len * n)).map numOf)) = (c.toList.drop a.off).take (len * n) := by
        have : E2.ints (((c.toList.drop a.off).take (len * n)).map numOf) = (((c.toList.drop a.off).take (len * n))).map .raw := by
          unfold E2.ints
          rw [List.map_map]
          refine List.map_congr_left fun u hu => ?_
          obtain ⟨k, hk⟩ := List.getElem?_of_mem hu
          rw [List.getElem?_take] at hk
          split at hk
          · rename_i hlt
            obtain ⟨y, h1, h2⟩ := hat k hlt
            rw [List.getElem?_drop, Array.getElem?_toList, h1] at hk
            cases hk
            rfl
          · cases hk
        rw [this, E2.concs_raw]
      rw [e2]
      have e3 : c.toList.take a.off ++ (c.toList.drop a.off).take (len * n) ++ c.toList.drop (a.off + len * n) = c.toList := by
        rw [List.append_assoc, ← List.drop_drop, List.take_append_drop, List.take_append_drop]
      show w.heap[a.block]? = some (.cells (c.toList.take a.off ++ (c.toList.drop a.off).take (len * n) ++ c.toList.drop (a.off + len * n)).toArray row fr)
      rw [e3]
      exact hblk
end
end Go.Proofs.Ytnapkmimllipjaa.K
namespace Go.Proofs.Ytnapkmimllipjaa.E2
open Go Go.RowKit
theorem calls_rows {c : Cfg} {lim : Nat} {f : FuncId} {args : List V} {H H' : Heap} {x : Value} (hm : Meets c lim f args H (.raw x) H') (hL : c.L = 0) (hG : c.G = []) (ls : List Loc) (w : World) (hlen : ls.length = H.length)
    (hro : ∀ (i : Nat) (B : Blk), H[i]? = some (some B) → ∃ zs T, B = .cells (ints zs) T .ro ∧ ∀ ρ, CellsOk ρ (ls.getD i (Loc.at 0)) w (ints zs) T .ro) (hu : unders H.length args = true) :
    Calls c.P f (concs ⟨fun i => ls.getD i (Loc.at 0), fun _ => undef⟩ args).toArray w fun e w' => e = .returned x ∧ Below w.heap.size w w' := by
  have R : RelH c ⟨fun i => ls.getD i (Loc.at 0), fun _ => undef⟩ H w := by
    refine ⟨fun i B hB => ?_, fun i j hi hj he => ?_, fun i B hB => ?_, fun p hp => (by rw [hG] at hp; cases hp), by omega, fun i hi => by omega⟩
    · obtain ⟨zs, T, rfl, hk⟩ := hro i B hB
      exact hk _
    · obtain ⟨B, a1, a2, a3⟩ := hi
      obtain ⟨zs, T, rfl, _⟩ := hro i B a1
      cases a2
    · obtain ⟨zs, T, rfl, _⟩ := hro i B hB
      exact unders_raws _ _ (ints_all zs)
  refine (hm _ w R hu).mono fun e w' ⟨ρ', _, he, _, F, _⟩ => ?_
  refine ⟨he, F.os, F.tape, F.output, F.size, fun k hk => F.blk k hk fun i _ h2 => ?_⟩
  obtain ⟨B, a1, a2, a3⟩ := h2
  obtain ⟨zs, T, rfl, _⟩ := hro i B a1
  cases a2
def RowsOk (ls : List Loc) (H : Heap) (w : World) : Prop := ∀ (i : Nat) (B : Blk), H[i]? = some (some B) → ∃ zs T, B = .cells (ints zs) T .ro ∧ ∀ ρ, CellsOk ρ (ls.getD i (Loc.at 0)) w (ints zs) T .ro
theorem rows_nil {w : World} : RowsOk [] [] w := fun i B h => by simp at h
theorem rows_cons {zs : List Int} {T : TypeId} {l : Loc} {ls : List Loc} {H : Heap} {w : World} (h0 : ∀ ρ, CellsOk ρ l w (ints zs) T .ro) (hr : RowsOk ls H w) : RowsOk (l :: ls) (some (.cells (ints zs) T .ro) :: H) w := fun i B h => by
  match i with
  | 0 =>
    simp only [List.getElem?_cons_zero, Option.some.injEq] at h
    exact ⟨zs, T, h.symm, h0⟩
  | i + 1 => exact hr i B (by simpa using h)
end Go.Proofs.Ytnapkmimllipjaa.E2
end
section
namespace Go.Proofs.Ytnapkmimllipjaa.E2
open Go Go.RowKit
def nz (zs : List Int) (k : Nat) : Bool := !decide (at' zs k = 0)
def cellV (zs : List Int) (b : Bool) (k : Nat) : Value := match b with
  | true => .bool (nz zs k)
  | false => .int .i64 (at' zs k)
def mix (ks : List Bool) (zs : List Int) : List V := (List.range zs.length).map fun k => .raw (cellV zs (ks.getD (k % ks.length) false) k)
theorem mix_all (ks : List Bool) (zs : List Int) : (mix ks zs).all isRawV = true := by
  rw [List.all_eq_true]
  intro x hx
  obtain ⟨k, _, rfl⟩ := List.mem_map.1 hx
  rfl
end Go.Proofs.Ytnapkmimllipjaa.E2
namespace Go.Proofs.Ytnapkmimllipjaa.K
open Go Go.Deep Go.ChangeShapes Go.WideShapes Go.ChangeAt Go.RowKit
section
variable {H : Type} {enc : TypeId × Value → H} {P : Program} {w : World} {base : Nat} {spare : Nat → Bool} {held : Bool}
end
end Go.Proofs.Ytnapkmimllipjaa.K
end
section
namespace Go.Proofs.Ytnapkmimllipjaa
open Go Go.RowKit Go.Proofs.Ytnapkmimllipjaa.E2
theorem tcChance_ok (k n d : Int) (hn : 0 ≤ n ∧ n ≤ 1048576) (hk : 0 ≤ k ∧ k ≤ n) (hd : 1 ≤ d ∧ d ≤ 100) (hq : 0 ≤ (k * 1000000).tdiv (n + d) ∧ (k * 1000000).tdiv (n + d) ≤ 1099511627776) (hr : 0 ≤ ((k + d) * 1000000 + (n + d) - 1).tdiv (n + d) ∧ ((k + d) * 1000000 + (n + d) - 1).tdiv (n + d) ≤ 1099511627776)  : Ret cfx 7 [.raw (.int .i64 k), .raw (.int .i64 n), .raw (.int .i64 d)] (V.raw (.tuple { toList := [.agg { toList := [.int .i64 ((k * (1000000 : Int)).tdiv (n + d)), .int .i64 (((k + d) * (1000000 : Int) + (n + d) - (1 : Int)).tdiv (n + d))] }, .int .i64 (0 : Int)] })) := by
  exact fn_of cfx_mixed cfx_call cfx_base.1 cfx_base.2.1 cfx_base.2.2 (n := 40) (ans := [Ans.go, Ans.go, Ans.br true, Ans.br true, Ans.br false, Ans.go, Ans.br true, Ans.br true, Ans.br false, Ans.br false, Ans.go, Ans.br true, Ans.br true, Ans.br false, Ans.br false, Ans.go, Ans.olds [((19 : Nat), (0 : Nat))], Ans.go, Ans.go]) (cons := [(decide ((0 : Int) ≤ n) = true), (true = true), ((!decide (n ≤ (1048576 : Int))) = false), (decide ((0 : Int) ≤ k) = true), (true = true), (false = false), ((!decide (k ≤ n)) = false), (decide ((1 : Int) ≤ d) = true), (true = true), (false = false), ((!decide (d ≤ (100 : Int))) = false), (inR IntKind.i64 (k * (1000000 : Int))), (inR IntKind.i64 (n + d)), (n + d ≠ (0 : Int)), (inR IntKind.i64 ((k * (1000000 : Int)).tdiv (n + d))), (inR IntKind.i64 (k + d)), (inR IntKind.i64 ((k + d) * (1000000 : Int))), (inR IntKind.i64 (n + d)), (inR IntKind.i64 ((k + d) * (1000000 : Int) + (n + d))), (inR IntKind.i64 ((k + d) * (1000000 : Int) + (n + d) - (1 : Int))), (n + d ≠ (0 : Int)), (inR IntKind.i64 (((k + d) * (1000000 : Int) + (n + d) - (1 : Int)).tdiv (n + d)))]) (by kernel_rfl) rfl rfl
    ⟨(by first | omega | (simp; omega) | (simp_all; omega)), rfl, (by first | assumption | (simp only [decide_eq_true_eq, decide_eq_false_iff_not, Bool.not_eq_true', Bool.not_eq_false']; first | assumption | omega) | (simp only [decide_eq_true_eq, decide_eq_false_iff_not, Bool.not_eq_true', Bool.not_eq_false']; done) | omega | (simp_all; done) | (simp_all; omega)), (by first | omega | (simp; omega) | (simp_all; omega)), rfl, rfl, (by first | assumption | (simp only [decide_eq_true_eq, decide_eq_false_iff_not, Bool.not_eq_true', Bool.not_eq_false']; first | assumption | omega) | (simp only [decide_eq_true_eq, decide_eq_false_iff_not, Bool.not_eq_true', Bool.not_eq_false']; done) | omega | (simp_all; done) | (simp_all; omega)), (by first | omega | (simp; omega) | (simp_all; omega)), rfl, rfl, (by first | assumption | (simp only [decide_eq_true_eq, decide_eq_false_iff_not, Bool.not_eq_true', Bool.not_eq_false']; first | assumption | omega) | (simp only [decide_eq_true_eq, decide_eq_false_iff_not, Bool.not_eq_true', Bool.not_eq_false']; done) | omega | (simp_all; done) | (simp_all; omega)), inR_i64 (by omega) (by omega), inR_i64 (by omega) (by omega), (by first | assumption | omega | (simp_all; done) | (simp_all; omega)), inR_i64 (by omega) (by omega), inR_i64 (by omega) (by omega), inR_i64 (by omega) (by omega), inR_i64 (by omega) (by omega), inR_i64 (by omega) (by omega), inR_i64 (by omega) (by omega), (by first | assumption | omega | (simp_all; done) | (simp_all; omega)), inR_i64 (by omega) (by omega), trivial⟩
theorem tcChance_n1 (k n d : Int) (hn : n < 0)  : Ret cfx 7 [.raw (.int .i64 k), .raw (.int .i64 n), .raw (.int .i64 d)] (V.raw (.tuple { toList := [.agg { toList := [.int .i64 (0 : Int), .int .i64 (0 : Int)] }, .int .i64 (3 : Int)] })) := by
  exact fn_of cfx_mixed cfx_call cfx_base.1 cfx_base.2.1 cfx_base.2.2 (n := 40) (ans := [Ans.go, Ans.go, Ans.br false, Ans.br false, Ans.br true, Ans.br true, Ans.br true, Ans.br true, Ans.br true]) (cons := [(decide ((0 : Int) ≤ n) = false), (false = false), (true = true), (true = true), (true = true), (true = true), (true = true)]) (by kernel_rfl) rfl rfl
    ⟨(by first | omega | (simp; omega) | (simp_all; omega)), rfl, rfl, rfl, rfl, rfl, rfl, trivial⟩
theorem tcChance_n2 (k n d : Int) (hn : 1048576 < n)  : Ret cfx 7 [.raw (.int .i64 k), .raw (.int .i64 n), .raw (.int .i64 d)] (V.raw (.tuple { toList := [.agg { toList := [.int .i64 (0 : Int), .int .i64 (0 : Int)] }, .int .i64 (3 : Int)] })) := by
  exact fn_of cfx_mixed cfx_call cfx_base.1 cfx_base.2.1 cfx_base.2.2 (n := 40) (ans := [Ans.go, Ans.go, Ans.br true, Ans.br true, Ans.br true, Ans.br true, Ans.br true, Ans.br true, Ans.br true]) (cons := [(decide ((0 : Int) ≤ n) = true), (true = true), ((!decide (n ≤ (1048576 : Int))) = true), (true = true), (true = true), (true = true), (true = true)]) (by kernel_rfl) rfl rfl
    ⟨(by first | omega | (simp; omega) | (simp_all; omega)), rfl, (by first | assumption | (simp only [decide_eq_true_eq, decide_eq_false_iff_not, Bool.not_eq_true', Bool.not_eq_false']; first | assumption | omega) | (simp only [decide_eq_true_eq, decide_eq_false_iff_not, Bool.not_eq_true', Bool.not_eq_false']; done) | omega | (simp_all; done) | (simp_all; omega)), rfl, rfl, rfl, rfl, trivial⟩
theorem tcChance_k1 (k n d : Int) (hn : 0 ≤ n ∧ n ≤ 1048576) (hk : k < 0)  : Ret cfx 7 [.raw (.int .i64 k), .raw (.int .i64 n), .raw (.int .i64 d)] (V.raw (.tuple { toList := [.agg { toList := [.int .i64 (0 : Int), .int .i64 (0 : Int)] }, .int .i64 (3 : Int)] })) := by
  exact fn_of cfx_mixed cfx_call cfx_base.1 cfx_base.2.1 cfx_base.2.2 (n := 40) (ans := [Ans.go, Ans.go, Ans.br true, Ans.br true, Ans.br false, Ans.go, Ans.br false, Ans.br false, Ans.br false, Ans.br true, Ans.br true, Ans.br true]) (cons := [(decide ((0 : Int) ≤ n) = true), (true = true), ((!decide (n ≤ (1048576 : Int))) = false), (decide ((0 : Int) ≤ k) = false), (false = false), (false = false), (true = true), (true = true), (true = true)]) (by kernel_rfl) rfl rfl
    ⟨(by first | omega | (simp; omega) | (simp_all; omega)), rfl, (by first | assumption | (simp only [decide_eq_true_eq, decide_eq_false_iff_not, Bool.not_eq_true', Bool.not_eq_false']; first | assumption | omega) | (simp only [decide_eq_true_eq, decide_eq_false_iff_not, Bool.not_eq_true', Bool.not_eq_false']; done) | omega | (simp_all; done) | (simp_all; omega)), (by first | omega | (simp; omega) | (simp_all; omega)), rfl, rfl, rfl, rfl, rfl, trivial⟩
theorem tcChance_k2 (k n d : Int) (hn : 0 ≤ n ∧ n ≤ 1048576) (hk : n < k)  : Ret cfx 7 [.raw (.int .i64 k), .raw (.int .i64 n), .raw (.int .i64 d)] (V.raw (.tuple { toList := [.agg { toList := [.int .i64 (0 : Int), .int .i64 (0 : Int)] }, .int .i64 (3 : Int)] })) := by
  exact fn_of cfx_mixed cfx_call cfx_base.1 cfx_base.2.1 cfx_base.2.2 (n := 40) (ans := [Ans.go, Ans.go, Ans.br true, Ans.br true, Ans.br false, Ans.go, Ans.br true, Ans.br true, Ans.br false, Ans.br true, Ans.br true, Ans.br true]) (cons := [(decide ((0 : Int) ≤ n) = true), (true = true), ((!decide (n ≤ (1048576 : Int))) = false), (decide ((0 : Int) ≤ k) = true), (true = true), (false = false), ((!decide (k ≤ n)) = true), (true = true), (true = true)]) (by kernel_rfl) rfl rfl
    ⟨(by first | omega | (simp; omega) | (simp_all; omega)), rfl, (by first | assumption | (simp only [decide_eq_true_eq, decide_eq_false_iff_not, Bool.not_eq_true', Bool.not_eq_false']; first | assumption | omega) | (simp only [decide_eq_true_eq, decide_eq_false_iff_not, Bool.not_eq_true', Bool.not_eq_false']; done) | omega | (simp_all; done) | (simp_all; omega)), (by first | omega | (simp; omega) | (simp_all; omega)), rfl, rfl, (by first | assumption | (simp only [decide_eq_true_eq, decide_eq_false_iff_not, Bool.not_eq_true', Bool.not_eq_false']; first | assumption | omega) | (simp only [decide_eq_true_eq, decide_eq_false_iff_not, Bool.not_eq_true', Bool.not_eq_false']; done) | omega | (simp_all; done) | (simp_all; omega)), rfl, rfl, trivial⟩
theorem tcChance_d1 (k n d : Int) (hn : 0 ≤ n ∧ n ≤ 1048576) (hk : 0 ≤ k ∧ k ≤ n) (hd : d < 1)  : Ret cfx 7 [.raw (.int .i64 k), .raw (.int .i64 n), .raw (.int .i64 d)] (V.raw (.tuple { toList := [.agg { toList := [.int .i64 (0 : Int), .int .i64 (0 : Int)] }, .int .i64 (3 : Int)] })) := by
  exact fn_of cfx_mixed cfx_call cfx_base.1 cfx_base.2.1 cfx_base.2.2 (n := 40) (ans := [Ans.go, Ans.go, Ans.br true, Ans.br true, Ans.br false, Ans.go, Ans.br true, Ans.br true, Ans.br false, Ans.br false, Ans.go, Ans.br false, Ans.br false, Ans.br false, Ans.br true]) (cons := [(decide ((0 : Int) ≤ n) = true), (true = true), ((!decide (n ≤ (1048576 : Int))) = false), (decide ((0 : Int) ≤ k) = true), (true = true), (false = false), ((!decide (k ≤ n)) = false), (decide ((1 : Int) ≤ d) = false), (false = false), (false = false), (true = true)]) (by kernel_rfl) rfl rfl
    ⟨(by first | omega | (simp; omega) | (simp_all; omega)), rfl, (by first | assumption | (simp only [decide_eq_true_eq, decide_eq_false_iff_not, Bool.not_eq_true', Bool.not_eq_false']; first | assumption | omega) | (simp only [decide_eq_true_eq, decide_eq_false_iff_not, Bool.not_eq_true', Bool.not_eq_false']; done) | omega | (simp_all; done) | (simp_all; omega)), (by first | omega | (simp; omega) | (simp_all; omega)), rfl, rfl, (by first | assumption | (simp only [decide_eq_true_eq, decide_eq_false_iff_not, Bool.not_eq_true', Bool.not_eq_false']; first | assumption | omega) | (simp only [decide_eq_true_eq, decide_eq_false_iff_not, Bool.not_eq_true', Bool.not_eq_false']; done) | omega | (simp_all; done) | (simp_all; omega)), (by first | omega | (simp; omega) | (simp_all; omega)), rfl, rfl, rfl, trivial⟩
theorem tcChance_d2 (k n d : Int) (hn : 0 ≤ n ∧ n ≤ 1048576) (hk : 0 ≤ k ∧ k ≤ n) (hd : 100 < d)  : Ret cfx 7 [.raw (.int .i64 k), .raw (.int .i64 n), .raw (.int .i64 d)] (V.raw (.tuple { toList := [.agg { toList := [.int .i64 (0 : Int), .int .i64 (0 : Int)] }, .int .i64 (3 : Int)] })) := by
  exact fn_of cfx_mixed cfx_call cfx_base.1 cfx_base.2.1 cfx_base.2.2 (n := 40) (ans := [Ans.go, Ans.go, Ans.br true, Ans.br true, Ans.br false, Ans.go, Ans.br true, Ans.br true, Ans.br false, Ans.br false, Ans.go, Ans.br true, Ans.br true, Ans.br false, Ans.br true]) (cons := [(decide ((0 : Int) ≤ n) = true), (true = true), ((!decide (n ≤ (1048576 : Int))) = false), (decide ((0 : Int) ≤ k) = true), (true = true), (false = false), ((!decide (k ≤ n)) = false), (decide ((1 : Int) ≤ d) = true), (true = true), (false = false), ((!decide (d ≤ (100 : Int))) = true)]) (by kernel_rfl) rfl rfl
    ⟨(by first | omega | (simp; omega) | (simp_all; omega)), rfl, (by first | assumption | (simp only [decide_eq_true_eq, decide_eq_false_iff_not, Bool.not_eq_true', Bool.not_eq_false']; first | assumption | omega) | (simp only [decide_eq_true_eq, decide_eq_false_iff_not, Bool.not_eq_true', Bool.not_eq_false']; done) | omega | (simp_all; done) | (simp_all; omega)), (by first | omega | (simp; omega) | (simp_all; omega)), rfl, rfl, (by first | assumption | (simp only [decide_eq_true_eq, decide_eq_false_iff_not, Bool.not_eq_true', Bool.not_eq_false']; first | assumption | omega) | (simp only [decide_eq_true_eq, decide_eq_false_iff_not, Bool.not_eq_true', Bool.not_eq_false']; done) | omega | (simp_all; done) | (simp_all; omega)), (by first | omega | (simp; omega) | (simp_all; omega)), rfl, rfl, (by first | assumption | (simp only [decide_eq_true_eq, decide_eq_false_iff_not, Bool.not_eq_true', Bool.not_eq_false']; first | assumption | omega) | (simp only [decide_eq_true_eq, decide_eq_false_iff_not, Bool.not_eq_true', Bool.not_eq_false']; done) | omega | (simp_all; done) | (simp_all; omega)), trivial⟩
theorem rcChance_ok (k n d : Int) (hn : 0 ≤ n ∧ n ≤ 1048576) (hk : 0 ≤ k ∧ k ≤ n) (hd : 1 ≤ d ∧ d ≤ 100) (hq : 0 ≤ (k * 1000000).tdiv (n + d) ∧ (k * 1000000).tdiv (n + d) ≤ 1099511627776) (hr : 0 ≤ ((k + d) * 1000000 + (n + d) - 1).tdiv (n + d) ∧ ((k + d) * 1000000 + (n + d) - 1).tdiv (n + d) ≤ 1099511627776)  : Ret cfx 8 [.raw (.int .i64 k), .raw (.int .i64 n), .raw (.int .i64 d)] (V.raw (.tuple { toList := [.agg { toList := [.int .i64 ((k * (1000000 : Int)).tdiv (n + d)), .int .i64 (((k + d) * (1000000 : Int) + (n + d) - (1 : Int)).tdiv (n + d))] }, .int .i64 (0 : Int)] })) := by
  exact fn_of cfx_mixed cfx_call cfx_base.1 cfx_base.2.1 cfx_base.2.2 (n := 40) (ans := [Ans.go, Ans.br false, Ans.br false, Ans.br false, Ans.br false, Ans.br false, Ans.br false, Ans.br false, Ans.br false, Ans.br false, Ans.br false, Ans.br false, Ans.go, Ans.go]) (cons := [(decide (n < (0 : Int)) = false), (false = false), (decide ((1048576 : Int) < n) = false), (false = false), (decide (k < (0 : Int)) = false), (false = false), (decide (n < k) = false), (false = false), (decide (d < (1 : Int)) = false), (false = false), (decide ((100 : Int) < d) = false), (inR IntKind.i64 (k * (1000000 : Int))), (inR IntKind.i64 (n + d)), (n + d ≠ (0 : Int)), (inR IntKind.i64 ((k * (1000000 : Int)).tdiv (n + d))), (inR IntKind.i64 (k + d)), (inR IntKind.i64 ((k + d) * (1000000 : Int))), (inR IntKind.i64 (n + d)), (inR IntKind.i64 ((k + d) * (1000000 : Int) + (n + d))), (inR IntKind.i64 ((k + d) * (1000000 : Int) + (n + d) - (1 : Int))), (n + d ≠ (0 : Int)), (inR IntKind.i64 (((k + d) * (1000000 : Int) + (n + d) - (1 : Int)).tdiv (n + d)))]) (by kernel_rfl) rfl rfl
    ⟨(by first | omega | (simp; omega) | (simp_all; omega)), rfl, (by first | omega | (simp; omega) | (simp_all; omega)), rfl, (by first | omega | (simp; omega) | (simp_all; omega)), rfl, (by first | assumption | (simp only [decide_eq_true_eq, decide_eq_false_iff_not, Bool.not_eq_true', Bool.not_eq_false']; first | assumption | omega) | (simp only [decide_eq_true_eq, decide_eq_false_iff_not, Bool.not_eq_true', Bool.not_eq_false']; done) | omega | (simp_all; done) | (simp_all; omega)), rfl, (by first | omega | (simp; omega) | (simp_all; omega)), rfl, (by first | omega | (simp; omega) | (simp_all; omega)), inR_i64 (by omega) (by omega), inR_i64 (by omega) (by omega), (by first | assumption | omega | (simp_all; done) | (simp_all; omega)), inR_i64 (by omega) (by omega), inR_i64 (by omega) (by omega), inR_i64 (by omega) (by omega), inR_i64 (by omega) (by omega), inR_i64 (by omega) (by omega), inR_i64 (by omega) (by omega), (by first | assumption | omega | (simp_all; done) | (simp_all; omega)), inR_i64 (by omega) (by omega), trivial⟩
theorem rcChance_n1 (k n d : Int) (hn : n < 0)  : Ret cfx 8 [.raw (.int .i64 k), .raw (.int .i64 n), .raw (.int .i64 d)] (V.raw (.tuple { toList := [.agg { toList := [.int .i64 (0 : Int), .int .i64 (0 : Int)] }, .int .i64 (3 : Int)] })) := by
  exact fn_of cfx_mixed cfx_call cfx_base.1 cfx_base.2.1 cfx_base.2.2 (n := 40) (ans := [Ans.go, Ans.br true, Ans.br true, Ans.br true, Ans.br true, Ans.br true, Ans.br true, Ans.br true, Ans.br true, Ans.br true, Ans.br true, Ans.br true]) (cons := [(decide (n < (0 : Int)) = true), (true = true), (true = true), (true = true), (true = true), (true = true), (true = true), (true = true), (true = true), (true = true), (true = true)]) (by kernel_rfl) rfl rfl
    ⟨(by first | omega | (simp; omega) | (simp_all; omega)), rfl, rfl, rfl, rfl, rfl, rfl, rfl, rfl, rfl, rfl, trivial⟩
theorem rcChance_n2 (k n d : Int) (hn : 1048576 < n)  : Ret cfx 8 [.raw (.int .i64 k), .raw (.int .i64 n), .raw (.int .i64 d)] (V.raw (.tuple { toList := [.agg { toList := [.int .i64 (0 : Int), .int .i64 (0 : Int)] }, .int .i64 (3 : Int)] })) := by
  exact fn_of cfx_mixed cfx_call cfx_base.1 cfx_base.2.1 cfx_base.2.2 (n := 40) (ans := [Ans.go, Ans.br false, Ans.br false, Ans.br true, Ans.br true, Ans.br true, Ans.br true, Ans.br true, Ans.br true, Ans.br true, Ans.br true, Ans.br true]) (cons := [(decide (n < (0 : Int)) = false), (false = false), (decide ((1048576 : Int) < n) = true), (true = true), (true = true), (true = true), (true = true), (true = true), (true = true), (true = true), (true = true)]) (by kernel_rfl) rfl rfl
    ⟨(by first | omega | (simp; omega) | (simp_all; omega)), rfl, (by first | omega | (simp; omega) | (simp_all; omega)), rfl, rfl, rfl, rfl, rfl, rfl, rfl, rfl, trivial⟩
theorem rcChance_k1 (k n d : Int) (hn : 0 ≤ n ∧ n ≤ 1048576) (hk : k < 0)  : Ret cfx 8 [.raw (.int .i64 k), .raw (.int .i64 n), .raw (.int .i64 d)] (V.raw (.tuple { toList := [.agg { toList := [.int .i64 (0 : Int), .int .i64 (0 : Int)] }, .int .i64 (3 : Int)] })) := by
  exact fn_of cfx_mixed cfx_call cfx_base.1 cfx_base.2.1 cfx_base.2.2 (n := 40) (ans := [Ans.go, Ans.br false, Ans.br false, Ans.br false, Ans.br false, Ans.br true, Ans.br true, Ans.br true, Ans.br true, Ans.br true, Ans.br true, Ans.br true]) (cons := [(decide (n < (0 : Int)) = false), (false = false), (decide ((1048576 : Int) < n) = false), (false = false), (decide (k < (0 : Int)) = true), (true = true), (true = true), (true = true), (true = true), (true = true), (true = true)]) (by kernel_rfl) rfl rfl
    ⟨(by first | omega | (simp; omega) | (simp_all; omega)), rfl, (by first | omega | (simp; omega) | (simp_all; omega)), rfl, (by first | omega | (simp; omega) | (simp_all; omega)), rfl, rfl, rfl, rfl, rfl, rfl, trivial⟩
theorem rcChance_k2 (k n d : Int) (hn : 0 ≤ n ∧ n ≤ 1048576) (hk : n < k)  : Ret cfx 8 [.raw (.int .i64 k), .raw (.int .i64 n), .raw (.int .i64 d)] (V.raw (.tuple { toList := [.agg { toList := [.int .i64 (0 : Int), .int .i64 (0 : Int)] }, .int .i64 (3 : Int)] })) := by
  exact fn_of cfx_mixed cfx_call cfx_base.1 cfx_base.2.1 cfx_base.2.2 (n := 40) (ans := [Ans.go, Ans.br false, Ans.br false, Ans.br false, Ans.br false, Ans.br false, Ans.br false, Ans.br true, Ans.br true, Ans.br true, Ans.br true, Ans.br true]) (cons := [(decide (n < (0 : Int)) = false), (false = false), (decide ((1048576 : Int) < n) = false), (false = false), (decide (k < (0 : Int)) = false), (false = false), (decide (n < k) = true), (true = true), (true = true), (true = true), (true = true)]) (by kernel_rfl) rfl rfl
    ⟨(by first | omega | (simp; omega) | (simp_all; omega)), rfl, (by first | omega | (simp; omega) | (simp_all; omega)), rfl, (by first | omega | (simp; omega) | (simp_all; omega)), rfl, (by first | assumption | (simp only [decide_eq_true_eq, decide_eq_false_iff_not, Bool.not_eq_true', Bool.not_eq_false']; first | assumption | omega) | (simp only [decide_eq_true_eq, decide_eq_false_iff_not, Bool.not_eq_true', Bool.not_eq_false']; done) | omega | (simp_all; done) | (simp_all; omega)), rfl, rfl, rfl, rfl, trivial⟩
theorem rcChance_d1 (k n d : Int) (hn : 0 ≤ n ∧ n ≤ 1048576) (hk : 0 ≤ k ∧ k ≤ n) (hd : d < 1)  : Ret cfx 8 [.raw (.int .i64 k), .raw (.int .i64 n), .raw (.int .i64 d)] (V.raw (.tuple { toList := [.agg { toList := [.int .i64 (0 : Int), .int .i64 (0 : Int)] }, .int .i64 (3 : Int)] })) := by
  exact fn_of cfx_mixed cfx_call cfx_base.1 cfx_base.2.1 cfx_base.2.2 (n := 40) (ans := [Ans.go, Ans.br false, Ans.br false, Ans.br false, Ans.br false, Ans.br false, Ans.br false, Ans.br false, Ans.br false, Ans.br true, Ans.br true, Ans.br true]) (cons := [(decide (n < (0 : Int)) = false), (false = false), (decide ((1048576 : Int) < n) = false), (false = false), (decide (k < (0 : Int)) = false), (false = false), (decide (n < k) = false), (false = false), (decide (d < (1 : Int)) = true), (true = true), (true = true)]) (by kernel_rfl) rfl rfl
    ⟨(by first | omega | (simp; omega) | (simp_all; omega)), rfl, (by first | omega | (simp; omega) | (simp_all; omega)), rfl, (by first | omega | (simp; omega) | (simp_all; omega)), rfl, (by first | assumption | (simp only [decide_eq_true_eq, decide_eq_false_iff_not, Bool.not_eq_true', Bool.not_eq_false']; first | assumption | omega) | (simp only [decide_eq_true_eq, decide_eq_false_iff_not, Bool.not_eq_true', Bool.not_eq_false']; done) | omega | (simp_all; done) | (simp_all; omega)), rfl, (by first | omega | (simp; omega) | (simp_all; omega)), rfl, rfl, trivial⟩
theorem rcChance_d2 (k n d : Int) (hn : 0 ≤ n ∧ n ≤ 1048576) (hk : 0 ≤ k ∧ k ≤ n) (hd : 100 < d)  : Ret cfx 8 [.raw (.int .i64 k), .raw (.int .i64 n), .raw (.int .i64 d)] (V.raw (.tuple { toList := [.agg { toList := [.int .i64 (0 : Int), .int .i64 (0 : Int)] }, .int .i64 (3 : Int)] })) := by
  exact fn_of cfx_mixed cfx_call cfx_base.1 cfx_base.2.1 cfx_base.2.2 (n := 40) (ans := [Ans.go, Ans.br false, Ans.br false, Ans.br false, Ans.br false, Ans.br false, Ans.br false, Ans.br false, Ans.br false, Ans.br false, Ans.br false, Ans.br true]) (cons := [(decide (n < (0 : Int)) = false), (false = false), (decide ((1048576 : Int) < n) = false), (false = false), (decide (k < (0 : Int)) = false), (false = false), (decide (n < k) = false), (false = false), (decide (d < (1 : Int)) = false), (false = false), (decide ((100 : Int) < d) = true)]) (by kernel_rfl) rfl rfl
    ⟨(by first | omega | (simp; omega) | (simp_all; omega)), rfl, (by first | omega | (simp; omega) | (simp_all; omega)), rfl, (by first | omega | (simp; omega) | (simp_all; omega)), rfl, (by first | assumption | (simp only [decide_eq_true_eq, decide_eq_false_iff_not, Bool.not_eq_true', Bool.not_eq_false']; first | assumption | omega) | (simp only [decide_eq_true_eq, decide_eq_false_iff_not, Bool.not_eq_true', Bool.not_eq_false']; done) | omega | (simp_all; done) | (simp_all; omega)), rfl, (by first | omega | (simp; omega) | (simp_all; omega)), rfl, (by first | omega | (simp; omega) | (simp_all; omega)), trivial⟩
theorem tcBad_1 (a b : Int) (f0 : (0 : Int) ≤ a) (f1 : ¬a ≤ b) : Ret cfx 45 [.raw (.agg #[.int .i64 (a), .int .i64 (b)])] (V.raw (.bool true)) := by
  exact fn_of cfx_mixed cfx_call cfx_base.1 cfx_base.2.1 cfx_base.2.2 (n := 40) (ans := [Ans.go, Ans.go, Ans.br true, Ans.br true, Ans.br true, Ans.br true]) (cons := [(decide ((0 : Int) ≤ a) = true), (true = true), ((!decide (a ≤ b)) = true), (true = true)]) (by kernel_rfl) rfl rfl
    ⟨(by first | omega | (simp; omega) | (simp_all; omega)), rfl, (by first | assumption | (simp only [decide_eq_true_eq, decide_eq_false_iff_not, Bool.not_eq_true', Bool.not_eq_false']; first | assumption | omega) | (simp only [decide_eq_true_eq, decide_eq_false_iff_not, Bool.not_eq_true', Bool.not_eq_false']; done) | omega | (simp_all; done) | (simp_all; omega)), rfl, trivial⟩
theorem tcBad_2 (a b : Int) (f0 : (0 : Int) ≤ a) (f1 : a ≤ b) : Ret cfx 45 [.raw (.agg #[.int .i64 (a), .int .i64 (b)])] (V.raw (.bool (decide ((1000000 : Int) < b)))) := by
  exact fn_of cfx_mixed cfx_call cfx_base.1 cfx_base.2.1 cfx_base.2.2 (n := 40) (ans := [Ans.go, Ans.go, Ans.br true, Ans.br true, Ans.br false, Ans.br false]) (cons := [(decide ((0 : Int) ≤ a) = true), (true = true), ((!decide (a ≤ b)) = false), (false = false)]) (by kernel_rfl) rfl rfl
    ⟨(by first | omega | (simp; omega) | (simp_all; omega)), rfl, (by first | assumption | (simp only [decide_eq_true_eq, decide_eq_false_iff_not, Bool.not_eq_true', Bool.not_eq_false']; first | assumption | omega) | (simp only [decide_eq_true_eq, decide_eq_false_iff_not, Bool.not_eq_true', Bool.not_eq_false']; done) | omega | (simp_all; done) | (simp_all; omega)), rfl, trivial⟩
theorem tcBad_3 (a b : Int) (f0 : ¬(0 : Int) ≤ a) : Ret cfx 45 [.raw (.agg #[.int .i64 (a), .int .i64 (b)])] (V.raw (.bool true)) := by
  exact fn_of cfx_mixed cfx_call cfx_base.1 cfx_base.2.1 cfx_base.2.2 (n := 40) (ans := [Ans.go, Ans.go, Ans.br false, Ans.br false, Ans.br true, Ans.br true]) (cons := [(decide ((0 : Int) ≤ a) = false), (false = false), (true = true), (true = true)]) (by kernel_rfl) rfl rfl
    ⟨(by first | omega | (simp; omega) | (simp_all; omega)), rfl, rfl, rfl, trivial⟩
theorem tcBad (a b : Int) : Ret cfx 45 [.raw (.agg #[.int .i64 (a), .int .i64 (b)])] (.raw (.bool (!M.okC a b))) := by
  by_cases f0 : (0 : Int) ≤ a
  ·
    by_cases f1 : ¬a ≤ b
    ·
      have e : (.raw (.bool (!M.okC a b)) : V) = V.raw (.bool true) := by (congr 2; rw [Bool.eq_iff_iff]; simp [M.okC]; omega)
      rw [e]
      exact tcBad_1 a b f0 f1
    ·
      replace f1 : a ≤ b := by simpa using f1
      have e : (.raw (.bool (!M.okC a b)) : V) = V.raw (.bool (decide ((1000000 : Int) < b))) := by (congr 2; rw [Bool.eq_iff_iff]; simp [M.okC]; omega)
      rw [e]
      exact tcBad_2 a b f0 f1
  ·
    have e : (.raw (.bool (!M.okC a b)) : V) = V.raw (.bool true) := by (congr 2; rw [Bool.eq_iff_iff]; simp [M.okC]; omega)
    rw [e]
    exact tcBad_3 a b f0
theorem rcValid_1 (a b : Int) (f0 : (0 : Int) ≤ a) (f1 : a ≤ b) : Ret cfx 33 [.raw (.agg #[.int .i64 (a), .int .i64 (b)])] (V.raw (.bool (decide (b ≤ (1000000 : Int))))) := by
  exact fn_of cfx_mixed cfx_call cfx_base.1 cfx_base.2.1 cfx_base.2.2 (n := 40) (ans := [Ans.go, Ans.br true, Ans.br true, Ans.br true, Ans.br true]) (cons := [(decide ((0 : Int) ≤ a) = true), (true = true), (decide (a ≤ b) = true), (true = true)]) (by kernel_rfl) rfl rfl
    ⟨(by first | omega | (simp; omega) | (simp_all; omega)), rfl, (by first | assumption | (simp only [decide_eq_true_eq, decide_eq_false_iff_not, Bool.not_eq_true', Bool.not_eq_false']; first | assumption | omega) | (simp only [decide_eq_true_eq, decide_eq_false_iff_not, Bool.not_eq_true', Bool.not_eq_false']; done) | omega | (simp_all; done) | (simp_all; omega)), rfl, trivial⟩
theorem rcValid_2 (a b : Int) (f0 : (0 : Int) ≤ a) (f1 : ¬a ≤ b) : Ret cfx 33 [.raw (.agg #[.int .i64 (a), .int .i64 (b)])] (V.raw (.bool false)) := by
  exact fn_of cfx_mixed cfx_call cfx_base.1 cfx_base.2.1 cfx_base.2.2 (n := 40) (ans := [Ans.go, Ans.br true, Ans.br true, Ans.br false, Ans.br false]) (cons := [(decide ((0 : Int) ≤ a) = true), (true = true), (decide (a ≤ b) = false), (false = false)]) (by kernel_rfl) rfl rfl
    ⟨(by first | omega | (simp; omega) | (simp_all; omega)), rfl, (by first | assumption | (simp only [decide_eq_true_eq, decide_eq_false_iff_not, Bool.not_eq_true', Bool.not_eq_false']; first | assumption | omega) | (simp only [decide_eq_true_eq, decide_eq_false_iff_not, Bool.not_eq_true', Bool.not_eq_false']; done) | omega | (simp_all; done) | (simp_all; omega)), rfl, trivial⟩
theorem rcValid_3 (a b : Int) (f0 : ¬(0 : Int) ≤ a) : Ret cfx 33 [.raw (.agg #[.int .i64 (a), .int .i64 (b)])] (V.raw (.bool false)) := by
  exact fn_of cfx_mixed cfx_call cfx_base.1 cfx_base.2.1 cfx_base.2.2 (n := 40) (ans := [Ans.go, Ans.br false, Ans.br false, Ans.br false, Ans.br false]) (cons := [(decide ((0 : Int) ≤ a) = false), (false = false), (false = false), (false = false)]) (by kernel_rfl) rfl rfl
    ⟨(by first | omega | (simp; omega) | (simp_all; omega)), rfl, rfl, rfl, trivial⟩
theorem rcValid (a b : Int) : Ret cfx 33 [.raw (.agg #[.int .i64 (a), .int .i64 (b)])] (.raw (.bool (M.okC a b))) := by
  by_cases f0 : (0 : Int) ≤ a
  ·
    by_cases f1 : a ≤ b
    ·
      have e : (.raw (.bool (M.okC a b)) : V) = V.raw (.bool (decide (b ≤ (1000000 : Int)))) := by (congr 2; rw [Bool.eq_iff_iff]; simp [M.okC]; omega)
      rw [e]
      exact rcValid_1 a b f0 f1
    ·
      have e : (.raw (.bool (M.okC a b)) : V) = V.raw (.bool false) := by (congr 2; rw [Bool.eq_iff_iff]; simp [M.okC]; omega)
      rw [e]
      exact rcValid_2 a b f0 f1
  ·
    have e : (.raw (.bool (M.okC a b)) : V) = V.raw (.bool false) := by (congr 2; rw [Bool.eq_iff_iff]; simp [M.okC]; omega)
    rw [e]
    exact rcValid_3 a b f0
theorem tcOpp (a b : Int) (ha : 0 ≤ a ∧ a ≤ 1000000) (hb : 0 ≤ b ∧ b ≤ 1000000)  : Ret cfx 25 [.raw (.agg #[.int .i64 (a), .int .i64 (b)])] (V.raw (.agg { toList := [.int .i64 ((1000000 : Int) - b), .int .i64 ((1000000 : Int) - a)] })) := by
  exact fn_of cfx_mixed cfx_call cfx_base.1 cfx_base.2.1 cfx_base.2.2 (n := 40) (ans := [Ans.go]) (cons := [(inR IntKind.i64 ((1000000 : Int) - b)), (inR IntKind.i64 ((1000000 : Int) - a))]) (by kernel_rfl) rfl rfl
    ⟨inR_i64 (by omega) (by omega), inR_i64 (by omega) (by omega), trivial⟩
theorem tcTimes (a b c d : Int) (hp : 0 ≤ a * c ∧ a * c ≤ 1000000000000) (hq : 0 ≤ b * d ∧ b * d ≤ 1000000000000) (hr : 0 ≤ (a * c).tdiv 1000000 ∧ (a * c).tdiv 1000000 ≤ 1000000) (hs : 0 ≤ (b * d + 1000000 - 1).tdiv 1000000 ∧ (b * d + 1000000 - 1).tdiv 1000000 ≤ 1000000)  : Ret cfx 32 [.raw (.agg #[.int .i64 (a), .int .i64 (b)]), .raw (.agg #[.int .i64 (c), .int .i64 (d)])] (V.raw (.agg { toList := [.int .i64 ((a * c).tdiv (1000000 : Int)), .int .i64 ((b * d + (1000000 : Int) - (1 : Int)).tdiv (1000000 : Int))] })) := by
  exact fn_of cfx_mixed cfx_call cfx_base.1 cfx_base.2.1 cfx_base.2.2 (n := 40) (ans := [Ans.go, Ans.go, Ans.olds [((17 : Nat), (4 : Nat))], Ans.go, Ans.go]) (cons := [(inR IntKind.i64 (a * c)), ((1000000 : Int) ≠ (0 : Int)), (inR IntKind.i64 ((a * c).tdiv (1000000 : Int))), (inR IntKind.i64 (b * d)), (inR IntKind.i64 (b * d + (1000000 : Int))), (inR IntKind.i64 (b * d + (1000000 : Int) - (1 : Int))), ((1000000 : Int) ≠ (0 : Int)), (inR IntKind.i64 ((b * d + (1000000 : Int) - (1 : Int)).tdiv (1000000 : Int)))]) (by kernel_rfl) rfl rfl
    ⟨inR_i64 (by omega) (by omega), (by first | assumption | omega | (simp_all; done) | (simp_all; omega)), inR_i64 (by omega) (by omega), inR_i64 (by omega) (by omega), inR_i64 (by omega) (by omega), inR_i64 (by omega) (by omega), (by first | assumption | omega | (simp_all; done) | (simp_all; omega)), inR_i64 (by omega) (by omega), trivial⟩
theorem tcTimesV (a b c d : Int) (ha : 0 ≤ a ∧ a ≤ 1000000) (hb : 0 ≤ b ∧ b ≤ 1000000) (hc : 0 ≤ c ∧ c ≤ 1000000) (hd : 0 ≤ d ∧ d ≤ 1000000) : Ret cfx 32 [.raw (.agg #[.int .i64 (a), .int .i64 (b)]), .raw (.agg #[.int .i64 (c), .int .i64 (d)])] (.raw (.agg #[.int .i64 (M.dn a c), .int .i64 (M.rup b d)])) := by
  have p := M.mul_le ha.1 ha.2 hc.1 hc.2
  have q := M.mul_le hb.1 hb.2 hd.1 hd.2
  have r := M.dn_in ha.1 ha.2 hc.1 hc.2
  have s := M.rup_in hb.1 hb.2 hd.1 hd.2
  unfold M.dn at r
  unfold M.rup at s
  exact tcTimes a b c d (by omega) (by omega) (by omega) (by omega)
def ixc_T (xs : List Int) (n : Nat) (T : Nat) (i : Int) : List V := [.slo 0 n, V.fn (Fn.func (45 : Nat)) [] [], uV, .any 3, iV (0 : Int), .any 5, .slo 0 n, iV (↑n : Int), iV i, .any 9, .any 10, .any 11, .any 12, .any 13, .any 14, .any 15, .any 16, .any 17, .any 18]
def ixc_H (xs : List Int) (n : Nat) (T : Nat) (i : Int) : Heap := [some (.cells (ints xs) T .ro)]
def ixc_T1 (xs : List Int) (n : Nat) (T : Nat) (i : Int) : List V := [.slo 0 n, V.fn (Fn.func (45 : Nat)) [] [], uV, .any 3, iV i, .any 5, .slo 0 n, iV (↑n : Int), iV i, .any 9, .any 10, .any 11, .any 12, .any 13, .any 14, .any 15, .any 16, .any 17, .any 18]
def ixc_H1 (xs : List Int) (n : Nat) (T : Nat) (i : Int) : Heap := [some (.cells (ints xs) T .ro)]
theorem ixc_1 (xs : List Int) (n : Nat) (T : Nat) (hz : n * 2 ≤ xs.length) (hn : n ≤ 1000) (i : Int) (hi1 : 0 ≤ i) (f0 : i < (↑n : Int)) (f1 : M.okC (at' xs (i.toNat * 2)) (at' xs (i.toNat * 2 + 1)) = false) : Runs cfx 0 1 none (loopOf cfx.P 57 0) (ixc_T xs n T i) (ixc_H xs n T i) (Ex.ret) (ixc_T1 xs n T i) (ixc_H1 xs n T i) := by
  refine Runs.post (t1 := [.slo 0 n, V.fn (Fn.func (45 : Nat)) [] [], uV, .any 3, iV i, iV i, .slo 0 n, iV (↑n : Int), iV i, V.raw (.bool (decide (i < (↑n : Int)))), iV i, V.fn (Fn.func (45 : Nat)) [] [], .slo 0 n, iV i, V.ptr (0 : Nat) (i.toNat * (2 : Nat)), (rowV xs (i.toNat * 2) 2), V.raw (.bool !M.okC (at' xs (i.toNat * 2)) (at' xs (i.toNat * 2 + 1))), iV i, .any 18]) (h1 := [some (.cells (ints xs) T .ro)]) (body_of cfx_mixed cfx_call (Nat.zero_le _) (rnd := none) (fi := 0) (k := 0) (n := 40) (n0 := 1) (ans := [Ans.br true, Ans.val (0 : Nat) ((rowV xs (i.toNat * 2) 2)), Ans.ret (V.raw (.bool !M.okC (at' xs (i.toNat * 2)) (at' xs (i.toNat * 2 + 1)))), Ans.br true]) (cons := [(decide (i < (↑n : Int)) = true), ((0 : Int) ≤ i ∧ i < (↑n : Int)), (loadRow cfx (25 : Nat) (ints xs) (i.toNat * (2 : Nat)) = some ((rowV xs (i.toNat * 2) 2))), (Ret cfx (45 : Nat) [V.raw (.agg { toList := [.int .i64 (at' xs (i.toNat * 2)), .int .i64 (at' xs (i.toNat * 2 + 1))] })] (V.raw (.bool !M.okC (at' xs (i.toNat * 2)) (at' xs (i.toNat * 2 + 1))))), ((!M.okC (at' xs (i.toNat * 2)) (at' xs (i.toNat * 2 + 1))) = true)]) (by kernel_rfl)
    ⟨(by first | omega | (simp; omega) | (simp_all; omega)), (by omega), (load_agg 2 (by kernel_rfl) (by kernel_rfl) (Nat.le_of_ble_eq_true rfl) (by omega)), (tcBad _ _), (by first | assumption | (simp only [decide_eq_true_eq, decide_eq_false_iff_not, Bool.not_eq_true', Bool.not_eq_false']; first | assumption | omega) | (simp only [decide_eq_true_eq, decide_eq_false_iff_not, Bool.not_eq_true', Bool.not_eq_false']; done) | omega | (simp_all; done) | (simp_all; omega)), trivial⟩ (Nat.le_of_ble_eq_true rfl) (Nat.le_of_ble_eq_true rfl) noRnd (noRanges (by kernel_rfl))) (fun RT RH => reshape2 (lim := 0) 1 cfx_G rfl [] (by kernel_rfl) (by kernel_rfl) (by exact (ents_raw (ints_all _) rfl rfl (ents_nil))) RT RH)
theorem ixc_2 (xs : List Int) (n : Nat) (T : Nat) (hz : n * 2 ≤ xs.length) (hn : n ≤ 1000) (i : Int) (hi1 : 0 ≤ i) (f0 : i < (↑n : Int)) (f1 : M.okC (at' xs (i.toNat * 2)) (at' xs (i.toNat * 2 + 1)) = true) : Runs cfx 0 1 none (loopOf cfx.P 57 0) (ixc_T xs n T i) (ixc_H xs n T i) (Ex.normal) (ixc_T xs n T (i + (1 : Int))) (ixc_H xs n T (i + (1 : Int))) := by
  refine Runs.post (t1 := [.slo 0 n, V.fn (Fn.func (45 : Nat)) [] [], uV, .any 3, iV (0 : Int), iV i, .slo 0 n, iV (↑n : Int), iV (i + (1 : Int)), V.raw (.bool (decide (i < (↑n : Int)))), iV i, V.fn (Fn.func (45 : Nat)) [] [], .slo 0 n, iV i, V.ptr (0 : Nat) (i.toNat * (2 : Nat)), (rowV xs (i.toNat * 2) 2), V.raw (.bool !M.okC (at' xs (i.toNat * 2)) (at' xs (i.toNat * 2 + 1))), .any 17, iV (i + (1 : Int))]) (h1 := [some (.cells (ints xs) T .ro)]) (body_of cfx_mixed cfx_call (Nat.zero_le _) (rnd := none) (fi := 0) (k := 0) (n := 40) (n0 := 1) (ans := [Ans.br true, Ans.val (0 : Nat) ((rowV xs (i.toNat * 2) 2)), Ans.ret (V.raw (.bool !M.okC (at' xs (i.toNat * 2)) (at' xs (i.toNat * 2 + 1)))), Ans.br false]) (cons := [(decide (i < (↑n : Int)) = true), ((0 : Int) ≤ i ∧ i < (↑n : Int)), (loadRow cfx (25 : Nat) (ints xs) (i.toNat * (2 : Nat)) = some ((rowV xs (i.toNat * 2) 2))), (Ret cfx (45 : Nat) [V.raw (.agg { toList := [.int .i64 (at' xs (i.toNat * 2)), .int .i64 (at' xs (i.toNat * 2 + 1))] })] (V.raw (.bool !M.okC (at' xs (i.toNat * 2)) (at' xs (i.toNat * 2 + 1))))), ((!M.okC (at' xs (i.toNat * 2)) (at' xs (i.toNat * 2 + 1))) = false), (inR IntKind.i64 (i + (1 : Int)))]) (by kernel_rfl)
    ⟨(by first | omega | (simp; omega) | (simp_all; omega)), (by omega), (load_agg 2 (by kernel_rfl) (by kernel_rfl) (Nat.le_of_ble_eq_true rfl) (by omega)), (tcBad _ _), (by first | assumption | (simp only [decide_eq_true_eq, decide_eq_false_iff_not, Bool.not_eq_true', Bool.not_eq_false']; first | assumption | omega) | (simp only [decide_eq_true_eq, decide_eq_false_iff_not, Bool.not_eq_true', Bool.not_eq_false']; done) | omega | (simp_all; done) | (simp_all; omega)), inR_i64 (by omega) (by omega), trivial⟩ (Nat.le_of_ble_eq_true rfl) (Nat.le_of_ble_eq_true rfl) noRnd (noRanges (by kernel_rfl))) (fun RT RH => reshape2 (lim := 0) 1 cfx_G rfl [] (by kernel_rfl) (by kernel_rfl) (by exact (ents_raw (ints_all _) rfl rfl (ents_nil))) RT RH)
def ixc_T3 (xs : List Int) (n : Nat) (T : Nat) (i : Int) : List V := [.slo 0 n, V.fn (Fn.func (45 : Nat)) [] [], uV, .any 3, iV (0 : Int), .any 5, .slo 0 n, iV (↑n : Int), iV i, .any 9, .any 10, .any 11, .any 12, .any 13, .any 14, .any 15, .any 16, .any 17, .any 18]
def ixc_H3 (xs : List Int) (n : Nat) (T : Nat) (i : Int) : Heap := [some (.cells (ints xs) T .ro)]
theorem ixc_3 (xs : List Int) (n : Nat) (T : Nat) (hz : n * 2 ≤ xs.length) (hn : n ≤ 1000) (i : Int) (hi1 : 0 ≤ i) (f0 : ¬i < (↑n : Int)) : Runs cfx 0 1 none (loopOf cfx.P 57 0) (ixc_T xs n T i) (ixc_H xs n T i) (Ex.exit (0 : Nat)) (ixc_T3 xs n T i) (ixc_H3 xs n T i) := by
  refine Runs.post (t1 := [.slo 0 n, V.fn (Fn.func (45 : Nat)) [] [], uV, .any 3, iV (0 : Int), .any 5, .slo 0 n, iV (↑n : Int), iV i, V.raw (.bool (decide (i < (↑n : Int)))), .any 10, .any 11, .any 12, .any 13, .any 14, .any 15, .any 16, .any 17, .any 18]) (h1 := [some (.cells (ints xs) T .ro)]) (body_of cfx_mixed cfx_call (Nat.zero_le _) (rnd := none) (fi := 0) (k := 0) (n := 40) (n0 := 1) (ans := [Ans.br false]) (cons := [(decide (i < (↑n : Int)) = false)]) (by kernel_rfl)
    ⟨(by first | omega | (simp; omega) | (simp_all; omega)), trivial⟩ (Nat.le_of_ble_eq_true rfl) (Nat.le_of_ble_eq_true rfl) noRnd (noRanges (by kernel_rfl))) (fun RT RH => reshape2 (lim := 0) 1 cfx_G rfl [] (by kernel_rfl) (by kernel_rfl) (by exact (ents_raw (ints_all _) rfl rfl (ents_nil))) RT RH)
def rli_T (xs : List Int) (n : Nat) (T : Nat) (i : Int) : List V := [.slo 0 n, uV, iV (0 : Int), iV i, .slo 0 n, iV (↑n : Int), V.raw (.bool (decide ((64 : Int) < (↑n : Int)))), .any 7, .any 8, .any 9, .any 10, .any 11, .any 12, .any 13, .any 14, .any 15, .any 16, .any 17, .any 18]
def rli_H (xs : List Int) (n : Nat) (T : Nat) (i : Int) : Heap := [some (.cells (ints xs) T .ro)]
def rli_T1 (xs : List Int) (n : Nat) (T : Nat) (i : Int) : List V := [.slo 0 n, uV, iV (2 : Int), iV i, .slo 0 n, iV (↑n : Int), V.raw (.bool (decide ((64 : Int) < (↑n : Int)))), .any 7, .any 8, .any 9, .any 10, .any 11, .any 12, .any 13, .any 14, .any 15, .any 16, .any 17, .any 18]
def rli_H1 (xs : List Int) (n : Nat) (T : Nat) (i : Int) : Heap := [some (.cells (ints xs) T .ro)]
theorem rli_1 (xs : List Int) (n : Nat) (T : Nat) (hz : n * 2 ≤ xs.length) (hn : n ≤ 1000) (hm : ¬ (64 : Int) < n) (i : Int) (hi1 : 0 ≤ i) (f0 : i < (↑n : Int)) (f1 : M.okC (at' xs (i.toNat * 2)) (at' xs (i.toNat * 2 + 1)) = false) : Runs cfx 0 1 none (loopOf cfx.P 23 0) (rli_T xs n T i) (rli_H xs n T i) (Ex.ret) (rli_T1 xs n T i) (rli_H1 xs n T i) := by
  refine Runs.post (t1 := [.slo 0 n, uV, iV (2 : Int), iV i, .slo 0 n, iV (↑n : Int), V.raw (.bool (decide ((64 : Int) < (↑n : Int)))), iV i, .slo 0 n, iV (↑n : Int), V.raw (.bool (decide (i < (↑n : Int)))), .any 11, .any 12, .slo 0 n, iV i, V.ptr (0 : Nat) (i.toNat * (2 : Nat)), (rowV xs (i.toNat * 2) 2), V.raw (.bool (M.okC (at' xs (i.toNat * 2)) (at' xs (i.toNat * 2 + 1)))), V.raw (.bool !M.okC (at' xs (i.toNat * 2)) (at' xs (i.toNat * 2 + 1)))]) (h1 := [some (.cells (ints xs) T .ro)]) (body_of cfx_mixed cfx_call (Nat.zero_le _) (rnd := none) (fi := 0) (k := 0) (n := 40) (n0 := 1) (ans := [Ans.br true, Ans.val (0 : Nat) ((rowV xs (i.toNat * 2) 2)), Ans.ret (V.raw (.bool (M.okC (at' xs (i.toNat * 2)) (at' xs (i.toNat * 2 + 1))))), Ans.br true]) (cons := [(decide (i < (↑n : Int)) = true), ((0 : Int) ≤ i ∧ i < (↑n : Int)), (loadRow cfx (25 : Nat) (ints xs) (i.toNat * (2 : Nat)) = some ((rowV xs (i.toNat * 2) 2))), (Ret cfx (33 : Nat) [V.raw (.agg { toList := [.int .i64 (at' xs (i.toNat * 2)), .int .i64 (at' xs (i.toNat * 2 + 1))] })] (V.raw (.bool (M.okC (at' xs (i.toNat * 2)) (at' xs (i.toNat * 2 + 1)))))), ((!M.okC (at' xs (i.toNat * 2)) (at' xs (i.toNat * 2 + 1))) = true)]) (by kernel_rfl)
    ⟨(by first | omega | (simp; omega) | (simp_all; omega)), (by omega), (load_agg 2 (by kernel_rfl) (by kernel_rfl) (Nat.le_of_ble_eq_true rfl) (by omega)), (rcValid _ _), (by first | assumption | (simp only [decide_eq_true_eq, decide_eq_false_iff_not, Bool.not_eq_true', Bool.not_eq_false']; first | assumption | omega) | (simp only [decide_eq_true_eq, decide_eq_false_iff_not, Bool.not_eq_true', Bool.not_eq_false']; done) | omega | (simp_all; done) | (simp_all; omega)), trivial⟩ (Nat.le_of_ble_eq_true rfl) (Nat.le_of_ble_eq_true rfl) noRnd (noRanges (by kernel_rfl))) (fun RT RH => reshape2 (lim := 0) 1 cfx_G rfl [] (by kernel_rfl) (by kernel_rfl) (by exact (ents_raw (ints_all _) rfl rfl (ents_nil))) RT RH)
theorem rli_2 (xs : List Int) (n : Nat) (T : Nat) (hz : n * 2 ≤ xs.length) (hn : n ≤ 1000) (hm : ¬ (64 : Int) < n) (i : Int) (hi1 : 0 ≤ i) (f0 : i < (↑n : Int)) (f1 : M.okC (at' xs (i.toNat * 2)) (at' xs (i.toNat * 2 + 1)) = true) : Runs cfx 0 1 none (loopOf cfx.P 23 0) (rli_T xs n T i) (rli_H xs n T i) (Ex.normal) (rli_T xs n T (i + (1 : Int))) (rli_H xs n T (i + (1 : Int))) := by
  refine Runs.post (t1 := [.slo 0 n, uV, iV (0 : Int), iV (i + (1 : Int)), .slo 0 n, iV (↑n : Int), V.raw (.bool (decide ((64 : Int) < (↑n : Int)))), iV i, .slo 0 n, iV (↑n : Int), V.raw (.bool (decide (i < (↑n : Int)))), iV i, iV (i + (1 : Int)), .slo 0 n, iV i, V.ptr (0 : Nat) (i.toNat * (2 : Nat)), (rowV xs (i.toNat * 2) 2), V.raw (.bool (M.okC (at' xs (i.toNat * 2)) (at' xs (i.toNat * 2 + 1)))), V.raw (.bool !M.okC (at' xs (i.toNat * 2)) (at' xs (i.toNat * 2 + 1)))]) (h1 := [some (.cells (ints xs) T .ro)]) (body_of cfx_mixed cfx_call (Nat.zero_le _) (rnd := none) (fi := 0) (k := 0) (n := 40) (n0 := 1) (ans := [Ans.br true, Ans.val (0 : Nat) ((rowV xs (i.toNat * 2) 2)), Ans.ret (V.raw (.bool (M.okC (at' xs (i.toNat * 2)) (at' xs (i.toNat * 2 + 1))))), Ans.br false]) (cons := [(decide (i < (↑n : Int)) = true), ((0 : Int) ≤ i ∧ i < (↑n : Int)), (loadRow cfx (25 : Nat) (ints xs) (i.toNat * (2 : Nat)) = some ((rowV xs (i.toNat * 2) 2))), (Ret cfx (33 : Nat) [V.raw (.agg { toList := [.int .i64 (at' xs (i.toNat * 2)), .int .i64 (at' xs (i.toNat * 2 + 1))] })] (V.raw (.bool (M.okC (at' xs (i.toNat * 2)) (at' xs (i.toNat * 2 + 1)))))), ((!M.okC (at' xs (i.toNat * 2)) (at' xs (i.toNat * 2 + 1))) = false), (inR IntKind.i64 (i + (1 : Int)))]) (by kernel_rfl)
    ⟨(by first | omega | (simp; omega) | (simp_all; omega)), (by omega), (load_agg 2 (by kernel_rfl) (by kernel_rfl) (Nat.le_of_ble_eq_true rfl) (by omega)), (rcValid _ _), (by first | assumption | (simp only [decide_eq_true_eq, decide_eq_false_iff_not, Bool.not_eq_true', Bool.not_eq_false']; first | assumption | omega) | (simp only [decide_eq_true_eq, decide_eq_false_iff_not, Bool.not_eq_true', Bool.not_eq_false']; done) | omega | (simp_all; done) | (simp_all; omega)), inR_i64 (by omega) (by omega), trivial⟩ (Nat.le_of_ble_eq_true rfl) (Nat.le_of_ble_eq_true rfl) noRnd (noRanges (by kernel_rfl))) (fun RT RH => reshape2 (lim := 0) 1 cfx_G rfl [] (by kernel_rfl) (by kernel_rfl) (by exact (ents_raw (ints_all _) rfl rfl (ents_nil))) RT RH)
def rli_T3 (xs : List Int) (n : Nat) (T : Nat) (i : Int) : List V := [.slo 0 n, uV, iV (0 : Int), iV i, .slo 0 n, iV (↑n : Int), V.raw (.bool (decide ((64 : Int) < (↑n : Int)))), .any 7, .any 8, .any 9, .any 10, .any 11, .any 12, .any 13, .any 14, .any 15, .any 16, .any 17, .any 18]
def rli_H3 (xs : List Int) (n : Nat) (T : Nat) (i : Int) : Heap := [some (.cells (ints xs) T .ro)]
theorem rli_3 (xs : List Int) (n : Nat) (T : Nat) (hz : n * 2 ≤ xs.length) (hn : n ≤ 1000) (hm : ¬ (64 : Int) < n) (i : Int) (hi1 : 0 ≤ i) (f0 : ¬i < (↑n : Int)) : Runs cfx 0 1 none (loopOf cfx.P 23 0) (rli_T xs n T i) (rli_H xs n T i) (Ex.exit (0 : Nat)) (rli_T3 xs n T i) (rli_H3 xs n T i) := by
  refine Runs.post (t1 := [.slo 0 n, uV, iV (0 : Int), iV i, .slo 0 n, iV (↑n : Int), V.raw (.bool (decide ((64 : Int) < (↑n : Int)))), iV i, .slo 0 n, iV (↑n : Int), V.raw (.bool (decide (i < (↑n : Int)))), .any 11, .any 12, .any 13, .any 14, .any 15, .any 16, .any 17, .any 18]) (h1 := [some (.cells (ints xs) T .ro)]) (body_of cfx_mixed cfx_call (Nat.zero_le _) (rnd := none) (fi := 0) (k := 0) (n := 40) (n0 := 1) (ans := [Ans.br false]) (cons := [(decide (i < (↑n : Int)) = false)]) (by kernel_rfl)
    ⟨(by first | omega | (simp; omega) | (simp_all; omega)), trivial⟩ (Nat.le_of_ble_eq_true rfl) (Nat.le_of_ble_eq_true rfl) noRnd (noRanges (by kernel_rfl))) (fun RT RH => reshape2 (lim := 0) 1 cfx_G rfl [] (by kernel_rfl) (by kernel_rfl) (by exact (ents_raw (ints_all _) rfl rfl (ents_nil))) RT RH)
def tal_T (xs : List Int) (n : Nat) (T : Nat) (i P Q : Int) : List V := [.slo 0 n, uV, .ptr 1 0, .ptr 2 0, uV, .any 5, V.raw (.agg { toList := [.int .i64 (1000000 : Int), .int .i64 (1000000 : Int)] }), .slo 0 n, iV (↑n : Int), iV i, .any 10, .any 11, .any 12, .any 13, .any 14, .any 15, .any 16, .any 17]
def tal_H (xs : List Int) (n : Nat) (T : Nat) (i P Q : Int) : Heap := [some (.cells (ints xs) T .ro), some (.cells [iV (0 : Int), iV (0 : Int)] 25 .rw), some (.cells [iV P, iV Q] 25 .rw)]
theorem tal_1 (xs : List Int) (n : Nat) (T : Nat) (hz : n * 2 ≤ xs.length) (hn : n ≤ 1000) (i P Q : Int) (hi1 : 0 ≤ i) (hP : 0 ≤ P ∧ P ≤ 1000000) (hQ : 0 ≤ Q ∧ Q ≤ 1000000) (hq : i < ↑n → (0 ≤ at' xs (i.toNat * 2) ∧ at' xs (i.toNat * 2) ≤ 1000000) ∧ (0 ≤ at' xs (i.toNat * 2 + 1) ∧ at' xs (i.toNat * 2 + 1) ≤ 1000000)) (f0 : i < (↑n : Int)) : Runs cfx 0 3 none (loopOf cfx.P 22 0) (tal_T xs n T i P Q) (tal_H xs n T i P Q) (Ex.normal) (tal_T xs n T (i + (1 : Int)) (M.dn P (at' xs (i.toNat * 2))) (M.rup Q (at' xs (i.toNat * 2 + 1)))) (tal_H xs n T (i + (1 : Int)) (M.dn P (at' xs (i.toNat * 2))) (M.rup Q (at' xs (i.toNat * 2 + 1)))) := by
  refine Runs.post (t1 := [.slo 0 n, uV, .ptr 1 0, .ptr 2 0, uV, .ptr 3 0, V.raw (.agg { toList := [.int .i64 (1000000 : Int), .int .i64 (1000000 : Int)] }), .slo 0 n, iV (↑n : Int), iV (i + (1 : Int)), V.raw (.bool (decide (i < (↑n : Int)))), V.ptr (0 : Nat) (i.toNat * (2 : Nat)), (rowV xs (i.toNat * 2) 2), V.raw (.agg { toList := [.int .i64 P, .int .i64 Q] }), (rowV xs (i.toNat * 2) 2), V.raw (.agg { toList := [.int .i64 (M.dn P (at' xs (i.toNat * 2))), .int .i64 (M.rup Q (at' xs (i.toNat * 2 + 1)))] }), iV (i + (1 : Int)), .any 17]) (h1 := [some (.cells (ints xs) T .ro), some (.cells [iV (0 : Int), iV (0 : Int)] 25 .rw), some (.cells [iV (M.dn P (at' xs (i.toNat * 2))), iV (M.rup Q (at' xs (i.toNat * 2 + 1)))] 25 .rw), some (.cells [iV (at' xs (i.toNat * 2)), iV (at' xs (i.toNat * 2 + 1))] 25 .rw)]) (body_of cfx_mixed cfx_call (Nat.zero_le _) (rnd := none) (fi := 0) (k := 0) (n := 40) (n0 := 3) (ans := [Ans.br true, Ans.val (0 : Nat) ((rowV xs (i.toNat * 2) 2)), Ans.ret (V.raw (.agg { toList := [.int .i64 (M.dn P (at' xs (i.toNat * 2))), .int .i64 (M.rup Q (at' xs (i.toNat * 2 + 1)))] }))]) (cons := [(decide (i < (↑n : Int)) = true), ((0 : Int) ≤ i ∧ i < (↑n : Int)), (loadRow cfx (25 : Nat) (ints xs) (i.toNat * (2 : Nat)) = some ((rowV xs (i.toNat * 2) 2))), (Ret cfx (32 : Nat) [V.raw (.agg { toList := [.int .i64 P, .int .i64 Q] }), V.raw (.agg { toList := [.int .i64 (at' xs (i.toNat * 2)), .int .i64 (at' xs (i.toNat * 2 + 1))] })] (V.raw (.agg { toList := [.int .i64 (M.dn P (at' xs (i.toNat * 2))), .int .i64 (M.rup Q (at' xs (i.toNat * 2 + 1)))] }))), (inR IntKind.i64 (i + (1 : Int)))]) (by kernel_rfl)
    ⟨(by first | omega | (simp; omega) | (simp_all; omega)), (by omega), (load_agg 2 (by kernel_rfl) (by kernel_rfl) (Nat.le_of_ble_eq_true rfl) (by omega)), (tcTimesV _ _ _ _ (by omega) (by omega) (by omega) (by omega)), inR_i64 (by omega) (by omega), trivial⟩ (Nat.le_of_ble_eq_true rfl) (Nat.le_of_ble_eq_true rfl) noRnd (noRanges (by kernel_rfl))) (fun RT RH => reshape2 (lim := 0) 3 cfx_G rfl [] (by kernel_rfl) (by kernel_rfl) (by exact (ents_raw (ints_all _) rfl rfl (ents_say rfl rfl rfl rfl (ents_say rfl rfl rfl rfl (ents_nil))))) RT RH)
def tal_T2 (xs : List Int) (n : Nat) (T : Nat) (i P Q : Int) : List V := [.slo 0 n, uV, .ptr 1 0, .ptr 2 0, uV, .any 5, V.raw (.agg { toList := [.int .i64 (1000000 : Int), .int .i64 (1000000 : Int)] }), .slo 0 n, iV (↑n : Int), iV i, .any 10, .any 11, .any 12, .any 13, .any 14, .any 15, .any 16, .any 17]
def tal_H2 (xs : List Int) (n : Nat) (T : Nat) (i P Q : Int) : Heap := [some (.cells (ints xs) T .ro), some (.cells [iV (0 : Int), iV (0 : Int)] 25 .rw), some (.cells [iV P, iV Q] 25 .rw)]
theorem tal_2 (xs : List Int) (n : Nat) (T : Nat) (hz : n * 2 ≤ xs.length) (hn : n ≤ 1000) (i P Q : Int) (hi1 : 0 ≤ i) (hP : 0 ≤ P ∧ P ≤ 1000000) (hQ : 0 ≤ Q ∧ Q ≤ 1000000) (hq : i < ↑n → (0 ≤ at' xs (i.toNat * 2) ∧ at' xs (i.toNat * 2) ≤ 1000000) ∧ (0 ≤ at' xs (i.toNat * 2 + 1) ∧ at' xs (i.toNat * 2 + 1) ≤ 1000000)) (f0 : ¬i < (↑n : Int)) : Runs cfx 0 3 none (loopOf cfx.P 22 0) (tal_T xs n T i P Q) (tal_H xs n T i P Q) (Ex.exit (0 : Nat)) (tal_T2 xs n T i P Q) (tal_H2 xs n T i P Q) := by
  refine Runs.post (t1 := [.slo 0 n, uV, .ptr 1 0, .ptr 2 0, uV, .any 5, V.raw (.agg { toList := [.int .i64 (1000000 : Int), .int .i64 (1000000 : Int)] }), .slo 0 n, iV (↑n : Int), iV i, V.raw (.bool (decide (i < (↑n : Int)))), .any 11, .any 12, .any 13, .any 14, .any 15, .any 16, .any 17]) (h1 := [some (.cells (ints xs) T .ro), some (.cells [iV (0 : Int), iV (0 : Int)] 25 .rw), some (.cells [iV P, iV Q] 25 .rw)]) (body_of cfx_mixed cfx_call (Nat.zero_le _) (rnd := none) (fi := 0) (k := 0) (n := 40) (n0 := 3) (ans := [Ans.br false]) (cons := [(decide (i < (↑n : Int)) = false)]) (by kernel_rfl)
    ⟨(by first | omega | (simp; omega) | (simp_all; omega)), trivial⟩ (Nat.le_of_ble_eq_true rfl) (Nat.le_of_ble_eq_true rfl) noRnd (noRanges (by kernel_rfl))) (fun RT RH => reshape2 (lim := 0) 3 cfx_G rfl [] (by kernel_rfl) (by kernel_rfl) (by exact (ents_raw (ints_all _) rfl rfl (ents_say rfl rfl rfl rfl (ents_say rfl rfl rfl rfl (ents_nil))))) RT RH)
def ral_T (xs : List Int) (n : Nat) (T : Nat) (i P Q : Int) : List V := [.slo 0 n, uV, .ptr 1 0, .ptr 2 0, iV i, V.raw (.agg { toList := [.int .i64 (1000000 : Int), .int .i64 (1000000 : Int)] }), .any 6, .any 7, .any 8, .any 9, .any 10, .any 11, .any 12, .any 13, .any 14, .any 15, .any 16, .any 17, .any 18, .any 19, .any 20, .any 21, .any 22, .any 23, .any 24, .any 25, .any 26, .any 27, .any 28, .any 29, .any 30, .any 31]
def ral_H (xs : List Int) (n : Nat) (T : Nat) (i P Q : Int) : Heap := [some (.cells (ints xs) T .ro), some (.cells [iV (0 : Int), iV (0 : Int)] 25 .rw), some (.cells [iV P, iV Q] 25 .rw)]
theorem ral_1 (xs : List Int) (n : Nat) (T : Nat) (hz : n * 2 ≤ xs.length) (hn : n ≤ 1000) (i P Q : Int) (hi1 : 0 ≤ i) (hP : 0 ≤ P ∧ P ≤ 1000000) (hQ : 0 ≤ Q ∧ Q ≤ 1000000) (hq : i < ↑n → (0 ≤ at' xs (i.toNat * 2) ∧ at' xs (i.toNat * 2) ≤ 1000000) ∧ (0 ≤ at' xs (i.toNat * 2 + 1) ∧ at' xs (i.toNat * 2 + 1) ≤ 1000000)) (hp : i < ↑n → 0 ≤ P * at' xs (i.toNat * 2) ∧ P * at' xs (i.toNat * 2) ≤ 1000000000000) (hr : i < ↑n → 0 ≤ (P * at' xs (i.toNat * 2)).tdiv 1000000 ∧ (P * at' xs (i.toNat * 2)).tdiv 1000000 ≤ 1000000) (hp2 : i < ↑n → 0 ≤ Q * at' xs (i.toNat * 2 + 1) ∧ Q * at' xs (i.toNat * 2 + 1) ≤ 1000000000000) (hr2 : i < ↑n → 0 ≤ (Q * at' xs (i.toNat * 2 + 1) + 1000000 - 1).tdiv 1000000 ∧ (Q * at' xs (i.toNat * 2 + 1) + 1000000 - 1).tdiv 1000000 ≤ 1000000) (f0 : i < (↑n : Int)) : Runs cfx 0 3 none (loopOf cfx.P 24 0) (ral_T xs n T i P Q) (ral_H xs n T i P Q) (Ex.normal) (ral_T xs n T (i + (1 : Int)) ((P * at' xs (i.toNat * 2)).tdiv (1000000 : Int)) ((Q * at' xs (i.toNat * 2 + 1) + (1000000 : Int) - (1 : Int)).tdiv (1000000 : Int))) (ral_H xs n T (i + (1 : Int)) ((P * at' xs (i.toNat * 2)).tdiv (1000000 : Int)) ((Q * at' xs (i.toNat * 2 + 1) + (1000000 : Int) - (1 : Int)).tdiv (1000000 : Int))) := by
  refine Runs.post (t1 := [.slo 0 n, uV, .ptr 1 0, .ptr 2 0, iV (i + (1 : Int)), V.raw (.agg { toList := [.int .i64 (1000000 : Int), .int .i64 (1000000 : Int)] }), iV i, .slo 0 n, iV (↑n : Int), V.raw (.bool (decide (i < (↑n : Int)))), iV i, iV (i + (1 : Int)), .ptr 2 0, iV P, .slo 0 n, iV i, V.ptr (0 : Nat) (i.toNat * (2 : Nat)), V.ptr (0 : Nat) (i.toNat * (2 : Nat)), iV (at' xs (i.toNat * 2)), iV (P * at' xs (i.toNat * 2)), iV ((P * at' xs (i.toNat * 2)).tdiv (1000000 : Int)), .ptr 2 1, iV Q, .slo 0 n, iV i, V.ptr (0 : Nat) (i.toNat * (2 : Nat)), V.ptr (0 : Nat) (i.toNat * (2 : Nat) + (1 : Nat)), iV (at' xs (i.toNat * 2 + 1)), iV (Q * at' xs (i.toNat * 2 + 1)), iV ((Q * at' xs (i.toNat * 2 + 1) + (1000000 : Int) - (1 : Int)).tdiv (1000000 : Int)), V.raw (.agg { toList := [.int .i64 ((P * at' xs (i.toNat * 2)).tdiv (1000000 : Int)), .int .i64 ((Q * at' xs (i.toNat * 2 + 1) + (1000000 : Int) - (1 : Int)).tdiv (1000000 : Int))] }), .any 31]) (h1 := [some (.cells (ints xs) T .ro), some (.cells [iV (0 : Int), iV (0 : Int)] 25 .rw), some (.cells [iV ((P * at' xs (i.toNat * 2)).tdiv (1000000 : Int)), iV ((Q * at' xs (i.toNat * 2 + 1) + (1000000 : Int) - (1 : Int)).tdiv (1000000 : Int))] 25 .rw)]) (body_of cfx_mixed cfx_call (Nat.zero_le _) (rnd := none) (fi := 0) (k := 0) (n := 40) (n0 := 3) (ans := [Ans.br true, Ans.olds [((19 : Nat), (4 : Nat))], Ans.val (0 : Nat) (iV (at' xs (i.toNat * 2))), Ans.go, Ans.val (0 : Nat) (iV (at' xs (i.toNat * 2 + 1))), Ans.go]) (cons := [(decide (i < (↑n : Int)) = true), ((0 : Int) ≤ i ∧ i < (↑n : Int)), (loadRow cfx (2 : Nat) (ints xs) (i.toNat * (2 : Nat)) = some (iV (at' xs (i.toNat * 2)))), (inR IntKind.i64 (P * at' xs (i.toNat * 2))), ((1000000 : Int) ≠ (0 : Int)), (inR IntKind.i64 ((P * at' xs (i.toNat * 2)).tdiv (1000000 : Int))), ((0 : Int) ≤ i ∧ i < (↑n : Int)), (loadRow cfx (2 : Nat) (ints xs) (i.toNat * (2 : Nat) + (1 : Nat)) = some (iV (at' xs (i.toNat * 2 + 1)))), (inR IntKind.i64 (Q * at' xs (i.toNat * 2 + 1))), (inR IntKind.i64 (Q * at' xs (i.toNat * 2 + 1) + (1000000 : Int))), (inR IntKind.i64 (Q * at' xs (i.toNat * 2 + 1) + (1000000 : Int) - (1 : Int))), ((1000000 : Int) ≠ (0 : Int)), (inR IntKind.i64 ((Q * at' xs (i.toNat * 2 + 1) + (1000000 : Int) - (1 : Int)).tdiv (1000000 : Int))), (inR IntKind.i64 (i + (1 : Int)))]) (by kernel_rfl)
    ⟨(by first | omega | (simp; omega) | (simp_all; omega)), (by omega), (load_one (by kernel_rfl) (by omega)), inR_i64 (by omega) (by omega), (by first | assumption | omega | (simp_all; done) | (simp_all; omega)), inR_i64 (by omega) (by omega), (by omega), (load_one (by kernel_rfl) (by omega)), inR_i64 (by omega) (by omega), inR_i64 (by omega) (by omega), inR_i64 (by omega) (by omega), (by first | assumption | omega | (simp_all; done) | (simp_all; omega)), inR_i64 (by omega) (by omega), inR_i64 (by omega) (by omega), trivial⟩ (Nat.le_of_ble_eq_true rfl) (Nat.le_of_ble_eq_true rfl) noRnd (noRanges (by kernel_rfl))) (fun RT RH => reshape2 (lim := 0) 3 cfx_G rfl [] (by kernel_rfl) (by kernel_rfl) (by exact (ents_raw (ints_all _) rfl rfl (ents_say rfl rfl rfl rfl (ents_say rfl rfl rfl rfl (ents_nil))))) RT RH)
def ral_T2 (xs : List Int) (n : Nat) (T : Nat) (i P Q : Int) : List V := [.slo 0 n, uV, .ptr 1 0, .ptr 2 0, iV i, V.raw (.agg { toList := [.int .i64 (1000000 : Int), .int .i64 (1000000 : Int)] }), .any 6, .any 7, .any 8, .any 9, .any 10, .any 11, .any 12, .any 13, .any 14, .any 15, .any 16, .any 17, .any 18, .any 19, .any 20, .any 21, .any 22, .any 23, .any 24, .any 25, .any 26, .any 27, .any 28, .any 29, .any 30, .any 31]
def ral_H2 (xs : List Int) (n : Nat) (T : Nat) (i P Q : Int) : Heap := [some (.cells (ints xs) T .ro), some (.cells [iV (0 : Int), iV (0 : Int)] 25 .rw), some (.cells [iV P, iV Q] 25 .rw)]
theorem ral_2 (xs : List Int) (n : Nat) (T : Nat) (hz : n * 2 ≤ xs.length) (hn : n ≤ 1000) (i P Q : Int) (hi1 : 0 ≤ i) (hP : 0 ≤ P ∧ P ≤ 1000000) (hQ : 0 ≤ Q ∧ Q ≤ 1000000) (hq : i < ↑n → (0 ≤ at' xs (i.toNat * 2) ∧ at' xs (i.toNat * 2) ≤ 1000000) ∧ (0 ≤ at' xs (i.toNat * 2 + 1) ∧ at' xs (i.toNat * 2 + 1) ≤ 1000000)) (hp : i < ↑n → 0 ≤ P * at' xs (i.toNat * 2) ∧ P * at' xs (i.toNat * 2) ≤ 1000000000000) (hr : i < ↑n → 0 ≤ (P * at' xs (i.toNat * 2)).tdiv 1000000 ∧ (P * at' xs (i.toNat * 2)).tdiv 1000000 ≤ 1000000) (hp2 : i < ↑n → 0 ≤ Q * at' xs (i.toNat * 2 + 1) ∧ Q * at' xs (i.toNat * 2 + 1) ≤ 1000000000000) (hr2 : i < ↑n → 0 ≤ (Q * at' xs (i.toNat * 2 + 1) + 1000000 - 1).tdiv 1000000 ∧ (Q * at' xs (i.toNat * 2 + 1) + 1000000 - 1).tdiv 1000000 ≤ 1000000) (f0 : ¬i < (↑n : Int)) : Runs cfx 0 3 none (loopOf cfx.P 24 0) (ral_T xs n T i P Q) (ral_H xs n T i P Q) (Ex.exit (0 : Nat)) (ral_T2 xs n T i P Q) (ral_H2 xs n T i P Q) := by
  refine Runs.post (t1 := [.slo 0 n, uV, .ptr 1 0, .ptr 2 0, iV i, V.raw (.agg { toList := [.int .i64 (1000000 : Int), .int .i64 (1000000 : Int)] }), iV i, .slo 0 n, iV (↑n : Int), V.raw (.bool (decide (i < (↑n : Int)))), .any 10, .any 11, .any 12, .any 13, .any 14, .any 15, .any 16, .any 17, .any 18, .any 19, .any 20, .any 21, .any 22, .any 23, .any 24, .any 25, .any 26, .any 27, .any 28, .any 29, .any 30, .any 31]) (h1 := [some (.cells (ints xs) T .ro), some (.cells [iV (0 : Int), iV (0 : Int)] 25 .rw), some (.cells [iV P, iV Q] 25 .rw)]) (body_of cfx_mixed cfx_call (Nat.zero_le _) (rnd := none) (fi := 0) (k := 0) (n := 40) (n0 := 3) (ans := [Ans.br false]) (cons := [(decide (i < (↑n : Int)) = false)]) (by kernel_rfl)
    ⟨(by first | omega | (simp; omega) | (simp_all; omega)), trivial⟩ (Nat.le_of_ble_eq_true rfl) (Nat.le_of_ble_eq_true rfl) noRnd (noRanges (by kernel_rfl))) (fun RT RH => reshape2 (lim := 0) 3 cfx_G rfl [] (by kernel_rfl) (by kernel_rfl) (by exact (ents_raw (ints_all _) rfl rfl (ents_say rfl rfl rfl rfl (ents_say rfl rfl rfl rfl (ents_nil))))) RT RH)
theorem ixc_loop (xs : List Int) (n : Nat) (T : Nat) (hz : n * 2 ≤ xs.length) (hn : n ≤ 1000) : (M.okL xs n = true ∧ Runs cfx 0 1 none (.loop (loopOf cfx.P 57 0)) (ixc_T xs n T 0) (ixc_H xs n T 0) (.exit 0) (ixc_T3 xs n T n) (ixc_H3 xs n T n)) ∨ (M.okL xs n = false ∧ ∃ i : Nat, Runs cfx 0 1 none (.loop (loopOf cfx.P 57 0)) (ixc_T xs n T 0) (ixc_H xs n T 0) (.ret) (ixc_T1 xs n T i) (ixc_H1 xs n T i)) := by
  rcases upto_find (c := cfx) (lim := 0) (n0 := 1) (x := loopOf cfx.P 57 0) noRnd (M.okA xs) (fun i : Nat => ixc_T xs n T i) (fun i : Nat => ixc_H xs n T i) n (fun i : Nat => ixc_T1 xs n T i) (fun i : Nat => ixc_H1 xs n T i) (e := .exit 0) (e1 := .ret) (by simp) (by simp)
    (fun i hi hg => ixc_2 xs n T hz hn i (by omega) (by omega) hg)
    (fun i hi hg => ixc_1 xs n T hz hn i (by omega) (by omega) hg)
    (ixc_3 xs n T hz hn n (by omega) (by omega)) with ⟨h1, h2⟩ | ⟨h1, i, hi, h2, h3, h4⟩
  · exact .inl ⟨h1, h2⟩
  · exact .inr ⟨h1, i, h4⟩
theorem tcCf_no (xs : List Int) (n : Nat) (T : Nat) (hz : n * 2 ≤ xs.length) (hn : n ≤ 1000) (hR : Runs cfx 0 1 none (.loop (loopOf cfx.P 57 0)) (ixc_T xs n T 0) (ixc_H xs n T 0) (.exit 0) (ixc_T3 xs n T n) (ixc_H3 xs n T n))  : Meets cfx 0 44 [.slo 0 n, V.fn (Fn.func 45) [] []] [some (.cells (ints xs) T .ro)] (V.raw (.bool false)) [some (.cells (ints xs) T .ro)] := by
  refine Meets.post (meets_ev cfx_mixed cfx_call (Nat.zero_le _) (Nat.le_of_ble_eq_true rfl) (n := 40) (ans := [Ans.go, Ans.go, Ans.loop (Ex.exit (0 : Nat)) [.slo 0 n, V.fn (Fn.func (45 : Nat)) [] [], uV, .any 3, iV (0 : Int), .any 5, .slo 0 n, iV (↑n : Int), iV (↑n : Int), .any 9, .any 10, .any 11, .any 12, .any 13, .any 14, .any 15, .any 16, .any 17, .any 18] [some (.cells (ints xs) T .ro)]]) (v := V.raw (.bool false)) (h' := [some (.cells (ints xs) T .ro)]) (cons := [(Runs cfx 0 (1 : Nat) none (.loop (loopOf cfx.P 57 0)) [.slo 0 n, V.fn (Fn.func (45 : Nat)) [] [], uV, uV, iV (0 : Int), uV, .slo 0 n, iV (↑n : Int), iV (0 : Int), uV, uV, uV, uV, uV, uV, uV, uV, uV, uV] [some (.cells (ints xs) T .ro)] (Ex.exit (0 : Nat)) [.slo 0 n, V.fn (Fn.func (45 : Nat)) [] [], uV, .any 3, iV (0 : Int), .any 5, .slo 0 n, iV (↑n : Int), iV (↑n : Int), .any 9, .any 10, .any 11, .any 12, .any 13, .any 14, .any 15, .any 16, .any 17, .any 18] [some (.cells (ints xs) T .ro)])]) (by kernel_rfl)
    ⟨(by
      refine Runs.pre (fun b e => by cases e) (fun RT RH => ?_) (hR)
      exact reshape2 (lim := 0) 1 (t := [.slo 0 n, V.fn (Fn.func (45 : Nat)) [] [], uV, uV, iV (0 : Int), uV, .slo 0 n, iV (↑n : Int), iV (0 : Int), uV, uV, uV, uV, uV, uV, uV, uV, uV, uV]) (h := [some (.cells (ints xs) T .ro)]) cfx_G rfl [] (by kernel_rfl) (by kernel_rfl) (by repeat first | exact ents_nil | refine ents_none ?_ | refine ents_raw (ints_all _) rfl rfl ?_ | refine ents_raw (bools_all _) rfl rfl ?_ | refine ents_raw (mix_all _ _) rfl rfl ?_ | refine ents_say rfl rfl rfl rfl ?_ | refine ents_nilC rfl rfl ?_) RT RH), trivial⟩) (by kernel_rfl) (fun RT RH => reshape2 (lim := 0) 1 cfx_G rfl [] (by kernel_rfl) (by kernel_rfl) (by exact (ents_raw (ints_all _) rfl rfl (ents_nil))) RT RH)
theorem tcCf_yes (xs : List Int) (n : Nat) (T : Nat) (hz : n * 2 ≤ xs.length) (hn : n ≤ 1000) (i : Nat) (hR : Runs cfx 0 1 none (.loop (loopOf cfx.P 57 0)) (ixc_T xs n T 0) (ixc_H xs n T 0) (.ret) (ixc_T1 xs n T i) (ixc_H1 xs n T i))  : Meets cfx 0 44 [.slo 0 n, V.fn (Fn.func 45) [] []] [some (.cells (ints xs) T .ro)] (V.raw (.bool true)) [some (.cells (ints xs) T .ro)] := by
  refine Meets.post (meets_ev cfx_mixed cfx_call (Nat.zero_le _) (Nat.le_of_ble_eq_true rfl) (n := 40) (ans := [Ans.go, Ans.go, Ans.loop Ex.ret [.slo 0 n, V.fn (Fn.func (45 : Nat)) [] [], uV, .any 3, iV (↑i : Int), .any 5, .slo 0 n, iV (↑n : Int), iV (↑i : Int), .any 9, .any 10, .any 11, .any 12, .any 13, .any 14, .any 15, .any 16, .any 17, .any 18] [some (.cells (ints xs) T .ro)]]) (v := V.raw (.bool true)) (h' := [some (.cells (ints xs) T .ro)]) (cons := [(Runs cfx 0 (1 : Nat) none (.loop (loopOf cfx.P 57 0)) [.slo 0 n, V.fn (Fn.func (45 : Nat)) [] [], uV, uV, iV (0 : Int), uV, .slo 0 n, iV (↑n : Int), iV (0 : Int), uV, uV, uV, uV, uV, uV, uV, uV, uV, uV] [some (.cells (ints xs) T .ro)] (Ex.ret) [.slo 0 n, V.fn (Fn.func (45 : Nat)) [] [], uV, .any 3, iV (↑i : Int), .any 5, .slo 0 n, iV (↑n : Int), iV (↑i : Int), .any 9, .any 10, .any 11, .any 12, .any 13, .any 14, .any 15, .any 16, .any 17, .any 18] [some (.cells (ints xs) T .ro)])]) (by kernel_rfl)
    ⟨(by
      refine Runs.pre (fun b e => by cases e) (fun RT RH => ?_) (hR)
      exact reshape2 (lim := 0) 1 (t := [.slo 0 n, V.fn (Fn.func (45 : Nat)) [] [], uV, uV, iV (0 : Int), uV, .slo 0 n, iV (↑n : Int), iV (0 : Int), uV, uV, uV, uV, uV, uV, uV, uV, uV, uV]) (h := [some (.cells (ints xs) T .ro)]) cfx_G rfl [] (by kernel_rfl) (by kernel_rfl) (by repeat first | exact ents_nil | refine ents_none ?_ | refine ents_raw (ints_all _) rfl rfl ?_ | refine ents_raw (bools_all _) rfl rfl ?_ | refine ents_raw (mix_all _ _) rfl rfl ?_ | refine ents_say rfl rfl rfl rfl ?_ | refine ents_nilC rfl rfl ?_) RT RH), trivial⟩) (by kernel_rfl) (fun RT RH => reshape2 (lim := 0) 1 cfx_G rfl [] (by kernel_rfl) (by kernel_rfl) (by exact (ents_raw (ints_all _) rfl rfl (ents_nil))) RT RH)
theorem tcContains (xs : List Int) (n : Nat) (T : Nat) (hz : n * 2 ≤ xs.length) (hn : n ≤ 1000) : Meets cfx 0 44 [.slo 0 n, V.fn (Fn.func 45) [] []] [some (.cells (ints xs) T .ro)] (.raw (.bool (!M.okL xs n))) [some (.cells (ints xs) T .ro)] := by
  rcases ixc_loop xs n T hz hn with ⟨e, R⟩ | ⟨e, i, R⟩ <;> rw [e]
  · exact tcCf_no xs n T hz hn R
  · exact tcCf_yes xs n T hz hn i R
theorem tcCheck_many (xs : List Int) (n : Nat) (T : Nat) (hm : (64 : Int) < n)  : Meets cfx 0 21 [.slo 0 n] [some (.cells (ints xs) T .ro)] (iV (6 : Int)) [some (.cells (ints xs) T .ro)] := by
  refine Meets.post (meets_ev cfx_mixed cfx_call (Nat.zero_le _) (Nat.le_of_ble_eq_true rfl) (n := 40) (ans := [Ans.go, Ans.br true]) (v := (iV (6 : Int))) (h' := [some (.cells (ints xs) T .ro)]) (cons := [(decide ((64 : Int) < (↑n : Int)) = true)]) (by kernel_rfl)
    ⟨(by first | omega | (simp; omega) | (simp_all; omega)), trivial⟩) (by kernel_rfl) (fun RT RH => reshape2 (lim := 0) 1 cfx_G rfl [] (by kernel_rfl) (by kernel_rfl) (by exact (ents_raw (ints_all _) rfl rfl (ents_nil))) RT RH)
theorem tcCheck_few_1 (xs : List Int) (n : Nat) (T : Nat) (hz : n * 2 ≤ xs.length) (hn : n ≤ 1000) (hm : n ≤ 64) (f0 : M.okL xs n = false) : Meets cfx 0 21 [.slo 0 n] [some (.cells (ints xs) T .ro)] (iV (2 : Int)) [some (.cells (ints xs) T .ro)] := by
  refine Meets.post (meets_ev cfx_mixed cfx_call (Nat.zero_le _) (Nat.le_of_ble_eq_true rfl) (n := 40) (ans := [Ans.go, Ans.br false, Ans.go, Ans.reth (V.raw (.bool !M.okL xs n)) [some (.cells (ints xs) T .ro)], Ans.br true]) (v := (iV (2 : Int))) (h' := [some (.cells (ints xs) T .ro)]) (cons := [(decide ((64 : Int) < (↑n : Int)) = false), (Meets cfx (0 : Nat) (44 : Nat) [.slo 0 n, V.fn (Fn.func (45 : Nat)) [] []] [some (.cells (ints xs) T .ro)] (V.raw (.bool !M.okL xs n)) [some (.cells (ints xs) T .ro)]), ((!!!M.okL xs n) = true)]) (by kernel_rfl)
    ⟨(by first | omega | (simp; omega) | (simp_all; omega)), (by exact below1 (lim := 0) (N := []) rfl rfl 0 (tcContains xs n T hz (by omega)) (ints_all _) rfl (fun k X h => by simp at h) rfl (Nat.zero_le _)), (by first | assumption | (simp only [decide_eq_true_eq, decide_eq_false_iff_not, Bool.not_eq_true', Bool.not_eq_false']; first | assumption | omega) | (simp only [decide_eq_true_eq, decide_eq_false_iff_not, Bool.not_eq_true', Bool.not_eq_false']; done) | omega | (simp_all; done) | (simp_all; omega)), trivial⟩) (by kernel_rfl) (fun RT RH => reshape2 (lim := 0) 1 cfx_G rfl [] (by kernel_rfl) (by kernel_rfl) (by exact (ents_raw (ints_all _) rfl rfl (ents_nil))) RT RH)
theorem tcCheck_few_2 (xs : List Int) (n : Nat) (T : Nat) (hz : n * 2 ≤ xs.length) (hn : n ≤ 1000) (hm : n ≤ 64) (f0 : M.okL xs n = true) : Meets cfx 0 21 [.slo 0 n] [some (.cells (ints xs) T .ro)] (iV (0 : Int)) [some (.cells (ints xs) T .ro)] := by
  refine Meets.post (meets_ev cfx_mixed cfx_call (Nat.zero_le _) (Nat.le_of_ble_eq_true rfl) (n := 40) (ans := [Ans.go, Ans.br false, Ans.go, Ans.reth (V.raw (.bool !M.okL xs n)) [some (.cells (ints xs) T .ro)], Ans.br false]) (v := (iV (0 : Int))) (h' := [some (.cells (ints xs) T .ro)]) (cons := [(decide ((64 : Int) < (↑n : Int)) = false), (Meets cfx (0 : Nat) (44 : Nat) [.slo 0 n, V.fn (Fn.func (45 : Nat)) [] []] [some (.cells (ints xs) T .ro)] (V.raw (.bool !M.okL xs n)) [some (.cells (ints xs) T .ro)]), ((!!!M.okL xs n) = false)]) (by kernel_rfl)
    ⟨(by first | omega | (simp; omega) | (simp_all; omega)), (by exact below1 (lim := 0) (N := []) rfl rfl 0 (tcContains xs n T hz (by omega)) (ints_all _) rfl (fun k X h => by simp at h) rfl (Nat.zero_le _)), (by first | assumption | (simp only [decide_eq_true_eq, decide_eq_false_iff_not, Bool.not_eq_true', Bool.not_eq_false']; first | assumption | omega) | (simp only [decide_eq_true_eq, decide_eq_false_iff_not, Bool.not_eq_true', Bool.not_eq_false']; done) | omega | (simp_all; done) | (simp_all; omega)), trivial⟩) (by kernel_rfl) (fun RT RH => reshape2 (lim := 0) 1 cfx_G rfl [] (by kernel_rfl) (by kernel_rfl) (by exact (ents_raw (ints_all _) rfl rfl (ents_nil))) RT RH)
theorem tcCheck_few (xs : List Int) (n : Nat) (T : Nat) (hz : n * 2 ≤ xs.length) (hn : n ≤ 1000) (hm : n ≤ 64) : Meets cfx 0 21 [.slo 0 n] [some (.cells (ints xs) T .ro)] (.raw (.int .i64 (M.liE xs n))) [some (.cells (ints xs) T .ro)] := by
  by_cases f0 : M.okL xs n = false
  ·
    have e : (.raw (.int .i64 (M.liE xs n)) : V) = (iV (2 : Int)) := by (unfold M.liE; rw [if_neg (by omega)]; simp [f0])
    rw [e]
    exact tcCheck_few_1 xs n T hz hn hm f0
  ·
    replace f0 : M.okL xs n = true := by simpa using f0
    have e : (.raw (.int .i64 (M.liE xs n)) : V) = (iV (0 : Int)) := by (unfold M.liE; rw [if_neg (by omega)]; simp [f0])
    rw [e]
    exact tcCheck_few_2 xs n T hz hn hm f0
theorem tcCheck (xs : List Int) (n : Nat) (T : Nat) (hz : n * 2 ≤ xs.length) : Meets cfx 0 21 [.slo 0 n] [some (.cells (ints xs) T .ro)] (.raw (.int .i64 (M.liE xs n))) [some (.cells (ints xs) T .ro)] := by
  by_cases hm : (64 : Int) < n
  · unfold M.liE; rw [if_pos hm]
    exact tcCheck_many xs n T hm
  · exact tcCheck_few xs n T hz (by omega) (by omega)
theorem rli_loop (xs : List Int) (n : Nat) (T : Nat) (hz : n * 2 ≤ xs.length) (hn : n ≤ 1000) (hm : n ≤ 64) : (M.okL xs n = true ∧ Runs cfx 0 1 none (.loop (loopOf cfx.P 23 0)) (rli_T xs n T 0) (rli_H xs n T 0) (.exit 0) (rli_T3 xs n T n) (rli_H3 xs n T n)) ∨ (M.okL xs n = false ∧ ∃ i : Nat, Runs cfx 0 1 none (.loop (loopOf cfx.P 23 0)) (rli_T xs n T 0) (rli_H xs n T 0) (.ret) (rli_T1 xs n T i) (rli_H1 xs n T i)) := by
  rcases upto_find (c := cfx) (lim := 0) (n0 := 1) (x := loopOf cfx.P 23 0) noRnd (M.okA xs) (fun i : Nat => rli_T xs n T i) (fun i : Nat => rli_H xs n T i) n (fun i : Nat => rli_T1 xs n T i) (fun i : Nat => rli_H1 xs n T i) (e := .exit 0) (e1 := .ret) (by simp) (by simp)
    (fun i hi hg => rli_2 xs n T hz hn (by omega) i (by omega) (by omega) hg)
    (fun i hi hg => rli_1 xs n T hz hn (by omega) i (by omega) (by omega) hg)
    (rli_3 xs n T hz hn (by omega) n (by omega) (by omega)) with ⟨h1, h2⟩ | ⟨h1, i, hi, h2, h3, h4⟩
  · exact .inl ⟨h1, h2⟩
  · exact .inr ⟨h1, i, h4⟩
theorem rcList_many (xs : List Int) (n : Nat) (T : Nat) (hm : (64 : Int) < n)  : Meets cfx 0 23 [.slo 0 n] [some (.cells (ints xs) T .ro)] (iV (6 : Int)) [some (.cells (ints xs) T .ro)] := by
  refine Meets.post (meets_ev cfx_mixed cfx_call (Nat.zero_le _) (Nat.le_of_ble_eq_true rfl) (n := 40) (ans := [Ans.go, Ans.br true]) (v := (iV (6 : Int))) (h' := [some (.cells (ints xs) T .ro)]) (cons := [(decide ((64 : Int) < (↑n : Int)) = true)]) (by kernel_rfl)
    ⟨(by first | omega | (simp; omega) | (simp_all; omega)), trivial⟩) (by kernel_rfl) (fun RT RH => reshape2 (lim := 0) 1 cfx_G rfl [] (by kernel_rfl) (by kernel_rfl) (by exact (ents_raw (ints_all _) rfl rfl (ents_nil))) RT RH)
theorem rcList_no (xs : List Int) (n : Nat) (T : Nat) (hz : n * 2 ≤ xs.length) (hn : n ≤ 1000) (hm : n ≤ 64) (hR : Runs cfx 0 1 none (.loop (loopOf cfx.P 23 0)) (rli_T xs n T 0) (rli_H xs n T 0) (.exit 0) (rli_T3 xs n T n) (rli_H3 xs n T n))  : Meets cfx 0 23 [.slo 0 n] [some (.cells (ints xs) T .ro)] (iV (0 : Int)) [some (.cells (ints xs) T .ro)] := by
  refine Meets.post (meets_ev cfx_mixed cfx_call (Nat.zero_le _) (Nat.le_of_ble_eq_true rfl) (n := 40) (ans := [Ans.go, Ans.br false, Ans.loop (Ex.exit (0 : Nat)) [.slo 0 n, uV, iV (0 : Int), iV (↑n : Int), .slo 0 n, iV (↑n : Int), V.raw (.bool (decide ((64 : Int) < (↑n : Int)))), .any 7, .any 8, .any 9, .any 10, .any 11, .any 12, .any 13, .any 14, .any 15, .any 16, .any 17, .any 18] [some (.cells (ints xs) T .ro)]]) (v := (iV (0 : Int))) (h' := [some (.cells (ints xs) T .ro)]) (cons := [(decide ((64 : Int) < (↑n : Int)) = false), (Runs cfx 0 (1 : Nat) none (.loop (loopOf cfx.P 23 0)) [.slo 0 n, uV, iV (0 : Int), iV (0 : Int), .slo 0 n, iV (↑n : Int), V.raw (.bool (decide ((64 : Int) < (↑n : Int)))), uV, uV, uV, uV, uV, uV, uV, uV, uV, uV, uV, uV] [some (.cells (ints xs) T .ro)] (Ex.exit (0 : Nat)) [.slo 0 n, uV, iV (0 : Int), iV (↑n : Int), .slo 0 n, iV (↑n : Int), V.raw (.bool (decide ((64 : Int) < (↑n : Int)))), .any 7, .any 8, .any 9, .any 10, .any 11, .any 12, .any 13, .any 14, .any 15, .any 16, .any 17, .any 18] [some (.cells (ints xs) T .ro)])]) (by kernel_rfl)
    ⟨(by first | omega | (simp; omega) | (simp_all; omega)), (by
      refine Runs.pre (fun b e => by cases e) (fun RT RH => ?_) (hR)
      exact reshape2 (lim := 0) 1 (t := [.slo 0 n, uV, iV (0 : Int), iV (0 : Int), .slo 0 n, iV (↑n : Int), V.raw (.bool (decide ((64 : Int) < (↑n : Int)))), uV, uV, uV, uV, uV, uV, uV, uV, uV, uV, uV, uV]) (h := [some (.cells (ints xs) T .ro)]) cfx_G rfl [] (by kernel_rfl) (by kernel_rfl) (by repeat first | exact ents_nil | refine ents_none ?_ | refine ents_raw (ints_all _) rfl rfl ?_ | refine ents_raw (bools_all _) rfl rfl ?_ | refine ents_raw (mix_all _ _) rfl rfl ?_ | refine ents_say rfl rfl rfl rfl ?_ | refine ents_nilC rfl rfl ?_) RT RH), trivial⟩) (by kernel_rfl) (fun RT RH => reshape2 (lim := 0) 1 cfx_G rfl [] (by kernel_rfl) (by kernel_rfl) (by exact (ents_raw (ints_all _) rfl rfl (ents_nil))) RT RH)
theorem rcList_yes (xs : List Int) (n : Nat) (T : Nat) (hz : n * 2 ≤ xs.length) (hn : n ≤ 1000) (hm : n ≤ 64) (i : Nat) (hR : Runs cfx 0 1 none (.loop (loopOf cfx.P 23 0)) (rli_T xs n T 0) (rli_H xs n T 0) (.ret) (rli_T1 xs n T i) (rli_H1 xs n T i))  : Meets cfx 0 23 [.slo 0 n] [some (.cells (ints xs) T .ro)] (iV (2 : Int)) [some (.cells (ints xs) T .ro)] := by
  refine Meets.post (meets_ev cfx_mixed cfx_call (Nat.zero_le _) (Nat.le_of_ble_eq_true rfl) (n := 40) (ans := [Ans.go, Ans.br false, Ans.loop Ex.ret [.slo 0 n, uV, iV (2 : Int), iV (↑i : Int), .slo 0 n, iV (↑n : Int), V.raw (.bool (decide ((64 : Int) < (↑n : Int)))), .any 7, .any 8, .any 9, .any 10, .any 11, .any 12, .any 13, .any 14, .any 15, .any 16, .any 17, .any 18] [some (.cells (ints xs) T .ro)]]) (v := (iV (2 : Int))) (h' := [some (.cells (ints xs) T .ro)]) (cons := [(decide ((64 : Int) < (↑n : Int)) = false), (Runs cfx 0 (1 : Nat) none (.loop (loopOf cfx.P 23 0)) [.slo 0 n, uV, iV (0 : Int), iV (0 : Int), .slo 0 n, iV (↑n : Int), V.raw (.bool (decide ((64 : Int) < (↑n : Int)))), uV, uV, uV, uV, uV, uV, uV, uV, uV, uV, uV, uV] [some (.cells (ints xs) T .ro)] (Ex.ret) [.slo 0 n, uV, iV (2 : Int), iV (↑i : Int), .slo 0 n, iV (↑n : Int), V.raw (.bool (decide ((64 : Int) < (↑n : Int)))), .any 7, .any 8, .any 9, .any 10, .any 11, .any 12, .any 13, .any 14, .any 15, .any 16, .any 17, .any 18] [some (.cells (ints xs) T .ro)])]) (by kernel_rfl)
    ⟨(by first | omega | (simp; omega) | (simp_all; omega)), (by
      refine Runs.pre (fun b e => by cases e) (fun RT RH => ?_) (hR)
      exact reshape2 (lim := 0) 1 (t := [.slo 0 n, uV, iV (0 : Int), iV (0 : Int), .slo 0 n, iV (↑n : Int), V.raw (.bool (decide ((64 : Int) < (↑n : Int)))), uV, uV, uV, uV, uV, uV, uV, uV, uV, uV, uV, uV]) (h := [some (.cells (ints xs) T .ro)]) cfx_G rfl [] (by kernel_rfl) (by kernel_rfl) (by repeat first | exact ents_nil | refine ents_none ?_ | refine ents_raw (ints_all _) rfl rfl ?_ | refine ents_raw (bools_all _) rfl rfl ?_ | refine ents_raw (mix_all _ _) rfl rfl ?_ | refine ents_say rfl rfl rfl rfl ?_ | refine ents_nilC rfl rfl ?_) RT RH), trivial⟩) (by kernel_rfl) (fun RT RH => reshape2 (lim := 0) 1 cfx_G rfl [] (by kernel_rfl) (by kernel_rfl) (by exact (ents_raw (ints_all _) rfl rfl (ents_nil))) RT RH)
theorem rcList_few (xs : List Int) (n : Nat) (T : Nat) (hz : n * 2 ≤ xs.length) (hn : n ≤ 1000) (hm : n ≤ 64) : Meets cfx 0 23 [.slo 0 n] [some (.cells (ints xs) T .ro)] (.raw (.int .i64 (M.liE xs n))) [some (.cells (ints xs) T .ro)] := by
  unfold M.liE; rw [if_neg (by omega)]
  rcases rli_loop xs n T hz hn hm with ⟨e, R⟩ | ⟨e, i, R⟩ <;> rw [e]
  · exact rcList_no xs n T hz hn hm R
  · exact rcList_yes xs n T hz hn hm i R
theorem rcList (xs : List Int) (n : Nat) (T : Nat) (hz : n * 2 ≤ xs.length) : Meets cfx 0 23 [.slo 0 n] [some (.cells (ints xs) T .ro)] (.raw (.int .i64 (M.liE xs n))) [some (.cells (ints xs) T .ro)] := by
  by_cases hm : (64 : Int) < n
  · unfold M.liE; rw [if_pos hm]
    exact rcList_many xs n T hm
  · exact rcList_few xs n T hz (by omega) (by omega)
theorem tal_loop (xs : List Int) (n : Nat) (T : Nat) (hz : n * 2 ≤ xs.length) (hn : n ≤ 1000) (hv : M.okL xs n = true) : Runs cfx 0 3 none (.loop (loopOf cfx.P 22 0)) (tal_T xs n T 0 1000000 1000000) (tal_H xs n T 0 1000000 1000000) (.exit 0) (tal_T2 xs n T n (M.loA xs n) (M.hiA xs n)) (tal_H2 xs n T n (M.loA xs n) (M.hiA xs n)) := by
  have key := upto (c := cfx) (lim := 0) (n0 := 3) (x := loopOf cfx.P 22 0) noRnd (fun i : Nat => tal_T xs n T i (M.loA xs i) (M.hiA xs i)) (fun i : Nat => tal_H xs n T i (M.loA xs i) (M.hiA xs i)) n (e := .exit 0) (by simp)
    (fun i hi => by
      have a := M.loA_in hv i (by omega)
      have b := M.hiA_in hv i (by omega)
      have d := M.okL_at hv i hi

      exact tal_1 xs n T hz hn i (M.loA xs i) (M.hiA xs i) (by omega) a b (fun _ => by simp only [Int.toNat_natCast]; omega) (by omega))
    (tal_2 xs n T hz hn n (M.loA xs n) (M.hiA xs n) (by omega) (M.loA_in hv n (by omega)) (M.hiA_in hv n (by omega)) (fun h => by omega) (by omega))
  exact key
theorem tcAll0 (xs : List Int) (n : Nat) (T : Nat) (hz : n * 2 ≤ xs.length) (hn : n ≤ 1000) (hR : Runs cfx 0 3 none (.loop (loopOf cfx.P 22 0)) (tal_T xs n T 0 1000000 1000000) (tal_H xs n T 0 1000000 1000000) (.exit 0) (tal_T2 xs n T n (M.loA xs n) (M.hiA xs n)) (tal_H2 xs n T n (M.loA xs n) (M.hiA xs n)))  : Meets cfx 0 22 [.slo 0 n] [some (.cells (ints xs) T .ro)] (V.raw (.agg { toList := [.int .i64 (M.loA xs n), .int .i64 (M.hiA xs n)] })) [some (.cells (ints xs) T .ro)] := by
  refine Meets.post (meets_ev cfx_mixed cfx_call (Nat.zero_le _) (Nat.le_of_ble_eq_true rfl) (n := 40) (ans := [Ans.go, Ans.loop (Ex.exit (0 : Nat)) [.slo 0 n, uV, .ptr 1 0, .ptr 2 0, uV, .any 5, V.raw (.agg { toList := [.int .i64 (1000000 : Int), .int .i64 (1000000 : Int)] }), .slo 0 n, iV (↑n : Int), iV (↑n : Int), .any 10, .any 11, .any 12, .any 13, .any 14, .any 15, .any 16, .any 17] [some (.cells (ints xs) T .ro), some (.cells [iV (0 : Int), iV (0 : Int)] 25 .rw), some (.cells [iV (M.loA xs n), iV (M.hiA xs n)] 25 .rw)]]) (v := V.raw (.agg { toList := [.int .i64 (M.loA xs n), .int .i64 (M.hiA xs n)] })) (h' := [some (.cells (ints xs) T .ro), some (.cells [iV (M.loA xs n), iV (M.hiA xs n)] 25 .rw), some (.cells [iV (M.loA xs n), iV (M.hiA xs n)] 25 .rw)]) (cons := [(Runs cfx 0 (3 : Nat) none (.loop (loopOf cfx.P 22 0)) [.slo 0 n, uV, .ptr 1 0, .ptr 2 0, uV, uV, V.raw (.agg { toList := [.int .i64 (1000000 : Int), .int .i64 (1000000 : Int)] }), .slo 0 n, iV (↑n : Int), iV (0 : Int), uV, uV, uV, uV, uV, uV, uV, uV] [some (.cells (ints xs) T .ro), some (.cells [iV (0 : Int), iV (0 : Int)] 25 .rw), some (.cells [iV (1000000 : Int), iV (1000000 : Int)] 25 .rw)] (Ex.exit (0 : Nat)) [.slo 0 n, uV, .ptr 1 0, .ptr 2 0, uV, .any 5, V.raw (.agg { toList := [.int .i64 (1000000 : Int), .int .i64 (1000000 : Int)] }), .slo 0 n, iV (↑n : Int), iV (↑n : Int), .any 10, .any 11, .any 12, .any 13, .any 14, .any 15, .any 16, .any 17] [some (.cells (ints xs) T .ro), some (.cells [iV (0 : Int), iV (0 : Int)] 25 .rw), some (.cells [iV (M.loA xs n), iV (M.hiA xs n)] 25 .rw)])]) (by kernel_rfl)
    ⟨(by
      refine Runs.pre (fun b e => by cases e) (fun RT RH => ?_) (hR)
      exact reshape2 (lim := 0) 3 (t := [.slo 0 n, uV, .ptr 1 0, .ptr 2 0, uV, uV, V.raw (.agg { toList := [.int .i64 (1000000 : Int), .int .i64 (1000000 : Int)] }), .slo 0 n, iV (↑n : Int), iV (0 : Int), uV, uV, uV, uV, uV, uV, uV, uV]) (h := [some (.cells (ints xs) T .ro), some (.cells [iV (0 : Int), iV (0 : Int)] 25 .rw), some (.cells [iV (1000000 : Int), iV (1000000 : Int)] 25 .rw)]) cfx_G rfl [] (by kernel_rfl) (by kernel_rfl) (by repeat first | exact ents_nil | refine ents_none ?_ | refine ents_raw (ints_all _) rfl rfl ?_ | refine ents_raw (bools_all _) rfl rfl ?_ | refine ents_raw (mix_all _ _) rfl rfl ?_ | refine ents_say rfl rfl rfl rfl ?_ | refine ents_nilC rfl rfl ?_) RT RH), trivial⟩) (by kernel_rfl) (fun RT RH => reshape2 (lim := 0) 1 cfx_G rfl [] (by kernel_rfl) (by kernel_rfl) (by exact (ents_raw (ints_all _) rfl rfl (ents_nil))) RT RH)
theorem tcAll0V (xs : List Int) (n : Nat) (T : Nat) (hz : n * 2 ≤ xs.length) (hn : n ≤ 1000) (hv : M.okL xs n = true) : Meets cfx 0 22 [.slo 0 n] [some (.cells (ints xs) T .ro)] (.raw (.agg #[.int .i64 (M.loA xs n), .int .i64 (M.hiA xs n)])) [some (.cells (ints xs) T .ro)] := tcAll0 xs n T hz hn (tal_loop xs n T hz hn hv)
theorem ral_loop (xs : List Int) (n : Nat) (T : Nat) (hz : n * 2 ≤ xs.length) (hn : n ≤ 1000) (hv : M.okL xs n = true) : Runs cfx 0 3 none (.loop (loopOf cfx.P 24 0)) (ral_T xs n T 0 1000000 1000000) (ral_H xs n T 0 1000000 1000000) (.exit 0) (ral_T2 xs n T n (M.loA xs n) (M.hiA xs n)) (ral_H2 xs n T n (M.loA xs n) (M.hiA xs n)) := by
  have key := upto (c := cfx) (lim := 0) (n0 := 3) (x := loopOf cfx.P 24 0) noRnd (fun i : Nat => ral_T xs n T i (M.loA xs i) (M.hiA xs i)) (fun i : Nat => ral_H xs n T i (M.loA xs i) (M.hiA xs i)) n (e := .exit 0) (by simp)
    (fun i hi => by
      have a := M.loA_in hv i (by omega)
      have b := M.hiA_in hv i (by omega)
      have d := M.okL_at hv i hi
      have p := M.mul_le a.1 a.2 d.1.1 (by omega)
      have q := M.mul_le b.1 b.2 (show 0 ≤ at' xs (i * 2 + 1) by omega) d.2
      have r := M.dn_in a.1 a.2 d.1.1 (by omega)
      have s := M.rup_in b.1 b.2 (show 0 ≤ at' xs (i * 2 + 1) by omega) d.2
      unfold M.dn at r
      unfold M.rup at s
      exact ral_1 xs n T hz hn i (M.loA xs i) (M.hiA xs i) (by omega) a b (fun _ => by simp only [Int.toNat_natCast]; omega) (fun _ => by simp only [Int.toNat_natCast]; omega) (fun _ => by simp only [Int.toNat_natCast]; omega) (fun _ => by simp only [Int.toNat_natCast]; omega) (fun _ => by simp only [Int.toNat_natCast]; omega) (by omega))
    (ral_2 xs n T hz hn n (M.loA xs n) (M.hiA xs n) (by omega) (M.loA_in hv n (by omega)) (M.hiA_in hv n (by omega)) (fun h => by omega) (fun h => by omega) (fun h => by omega) (fun h => by omega) (fun h => by omega) (by omega))
  exact key
theorem rcAll0 (xs : List Int) (n : Nat) (T : Nat) (hz : n * 2 ≤ xs.length) (hn : n ≤ 1000) (hR : Runs cfx 0 3 none (.loop (loopOf cfx.P 24 0)) (ral_T xs n T 0 1000000 1000000) (ral_H xs n T 0 1000000 1000000) (.exit 0) (ral_T2 xs n T n (M.loA xs n) (M.hiA xs n)) (ral_H2 xs n T n (M.loA xs n) (M.hiA xs n)))  : Meets cfx 0 24 [.slo 0 n] [some (.cells (ints xs) T .ro)] (V.raw (.agg { toList := [.int .i64 (M.loA xs n), .int .i64 (M.hiA xs n)] })) [some (.cells (ints xs) T .ro)] := by
  refine Meets.post (meets_ev cfx_mixed cfx_call (Nat.zero_le _) (Nat.le_of_ble_eq_true rfl) (n := 40) (ans := [Ans.go, Ans.loop (Ex.exit (0 : Nat)) [.slo 0 n, uV, .ptr 1 0, .ptr 2 0, iV (↑n : Int), V.raw (.agg { toList := [.int .i64 (1000000 : Int), .int .i64 (1000000 : Int)] }), .any 6, .any 7, .any 8, .any 9, .any 10, .any 11, .any 12, .any 13, .any 14, .any 15, .any 16, .any 17, .any 18, .any 19, .any 20, .any 21, .any 22, .any 23, .any 24, .any 25, .any 26, .any 27, .any 28, .any 29, .any 30, .any 31] [some (.cells (ints xs) T .ro), some (.cells [iV (0 : Int), iV (0 : Int)] 25 .rw), some (.cells [iV (M.loA xs n), iV (M.hiA xs n)] 25 .rw)]]) (v := V.raw (.agg { toList := [.int .i64 (M.loA xs n), .int .i64 (M.hiA xs n)] })) (h' := [some (.cells (ints xs) T .ro), some (.cells [iV (M.loA xs n), iV (M.hiA xs n)] 25 .rw), some (.cells [iV (M.loA xs n), iV (M.hiA xs n)] 25 .rw)]) (cons := [(Runs cfx 0 (3 : Nat) none (.loop (loopOf cfx.P 24 0)) [.slo 0 n, uV, .ptr 1 0, .ptr 2 0, iV (0 : Int), V.raw (.agg { toList := [.int .i64 (1000000 : Int), .int .i64 (1000000 : Int)] }), uV, uV, uV, uV, uV, uV, uV, uV, uV, uV, uV, uV, uV, uV, uV, uV, uV, uV, uV, uV, uV, uV, uV, uV, uV, uV] [some (.cells (ints xs) T .ro), some (.cells [iV (0 : Int), iV (0 : Int)] 25 .rw), some (.cells [iV (1000000 : Int), iV (1000000 : Int)] 25 .rw)] (Ex.exit (0 : Nat)) [.slo 0 n, uV, .ptr 1 0, .ptr 2 0, iV (↑n : Int), V.raw (.agg { toList := [.int .i64 (1000000 : Int), .int .i64 (1000000 : Int)] }), .any 6, .any 7, .any 8, .any 9, .any 10, .any 11, .any 12, .any 13, .any 14, .any 15, .any 16, .any 17, .any 18, .any 19, .any 20, .any 21, .any 22, .any 23, .any 24, .any 25, .any 26, .any 27, .any 28, .any 29, .any 30, .any 31] [some (.cells (ints xs) T .ro), some (.cells [iV (0 : Int), iV (0 : Int)] 25 .rw), some (.cells [iV (M.loA xs n), iV (M.hiA xs n)] 25 .rw)])]) (by kernel_rfl)
    ⟨(by
      refine Runs.pre (fun b e => by cases e) (fun RT RH => ?_) (hR)
      exact reshape2 (lim := 0) 3 (t := [.slo 0 n, uV, .ptr 1 0, .ptr 2 0, iV (0 : Int), V.raw (.agg { toList := [.int .i64 (1000000 : Int), .int .i64 (1000000 : Int)] }), uV, uV, uV, uV, uV, uV, uV, uV, uV, uV, uV, uV, uV, uV, uV, uV, uV, uV, uV, uV, uV, uV, uV, uV, uV, uV]) (h := [some (.cells (ints xs) T .ro), some (.cells [iV (0 : Int), iV (0 : Int)] 25 .rw), some (.cells [iV (1000000 : Int), iV (1000000 : Int)] 25 .rw)]) cfx_G rfl [] (by kernel_rfl) (by kernel_rfl) (by repeat first | exact ents_nil | refine ents_none ?_ | refine ents_raw (ints_all _) rfl rfl ?_ | refine ents_raw (bools_all _) rfl rfl ?_ | refine ents_raw (mix_all _ _) rfl rfl ?_ | refine ents_say rfl rfl rfl rfl ?_ | refine ents_nilC rfl rfl ?_) RT RH), trivial⟩) (by kernel_rfl) (fun RT RH => reshape2 (lim := 0) 1 cfx_G rfl [] (by kernel_rfl) (by kernel_rfl) (by exact (ents_raw (ints_all _) rfl rfl (ents_nil))) RT RH)
theorem rcAll0V (xs : List Int) (n : Nat) (T : Nat) (hz : n * 2 ≤ xs.length) (hn : n ≤ 1000) (hv : M.okL xs n = true) : Meets cfx 0 24 [.slo 0 n] [some (.cells (ints xs) T .ro)] (.raw (.agg #[.int .i64 (M.loA xs n), .int .i64 (M.hiA xs n)])) [some (.cells (ints xs) T .ro)] := rcAll0 xs n T hz hn (ral_loop xs n T hz hn hv)
theorem M.liE_0 {xs : List Int} {n : Nat} (h : M.liE xs n = 0) : n ≤ 64 ∧ M.okL xs n = true := by
  unfold M.liE at h
  split at h
  · omega
  · split at h
    · exact ⟨by omega, by assumption⟩
    · omega
def M.aLo (xs : List Int) (n : Nat) : Int := if M.liE xs n = 0 then M.loA xs n else 0
def M.aHi (xs : List Int) (n : Nat) : Int := if M.liE xs n = 0 then M.hiA xs n else 0
theorem tcAll_bad (xs : List Int) (n : Nat) (T : Nat) (hz : n * 2 ≤ xs.length) (hE : ¬ M.liE xs n = 0)  : Meets cfx 0 9 [.slo 0 n] [some (.cells (ints xs) T .ro)] (V.raw (.tuple { toList := [.agg { toList := [.int .i64 (0 : Int), .int .i64 (0 : Int)] }, .int .i64 (M.liE xs n)] })) [some (.cells (ints xs) T .ro)] := by
  refine Meets.post (meets_ev cfx_mixed cfx_call (Nat.zero_le _) (Nat.le_of_ble_eq_true rfl) (n := 40) (ans := [Ans.go, Ans.reth (iV (M.liE xs n)) [some (.cells (ints xs) T .ro), some (.cells [iV (0 : Int), iV (0 : Int)] 25 .rw)], Ans.br true]) (v := V.raw (.tuple { toList := [.agg { toList := [.int .i64 (0 : Int), .int .i64 (0 : Int)] }, .int .i64 (M.liE xs n)] })) (h' := [some (.cells (ints xs) T .ro), some (.cells [iV (0 : Int), iV (0 : Int)] 25 .rw)]) (cons := [(Meets cfx (0 : Nat) (21 : Nat) [.slo 0 n] [some (.cells (ints xs) T .ro), some (.cells [iV (0 : Int), iV (0 : Int)] 25 .rw)] (iV (M.liE xs n)) [some (.cells (ints xs) T .ro), some (.cells [iV (0 : Int), iV (0 : Int)] 25 .rw)]), ((!decide (M.liE xs n = (0 : Int))) = true)]) (by kernel_rfl)
    ⟨(by exact below1 (lim := 0) (N := []) rfl rfl 0 (tcCheck xs n T hz) (ints_all _) rfl (fun k X h => by simp at h) rfl (Nat.zero_le _)), (by first | assumption | (simp only [decide_eq_true_eq, decide_eq_false_iff_not, Bool.not_eq_true', Bool.not_eq_false']; first | assumption | omega) | (simp only [decide_eq_true_eq, decide_eq_false_iff_not, Bool.not_eq_true', Bool.not_eq_false']; done) | omega | (simp_all; done) | (simp_all; omega)), trivial⟩) (by kernel_rfl) (fun RT RH => reshape2 (lim := 0) 1 cfx_G rfl [] (by kernel_rfl) (by kernel_rfl) (by exact (ents_raw (ints_all _) rfl rfl (ents_nil))) RT RH)
theorem tcAll_ok (xs : List Int) (n : Nat) (T : Nat) (hz : n * 2 ≤ xs.length) (hE : M.liE xs n = 0)  : Meets cfx 0 9 [.slo 0 n] [some (.cells (ints xs) T .ro)] (V.raw (.tuple { toList := [.agg { toList := [.int .i64 (M.loA xs n), .int .i64 (M.hiA xs n)] }, .int .i64 (0 : Int)] })) [some (.cells (ints xs) T .ro)] := by
  refine Meets.post (meets_ev cfx_mixed cfx_call (Nat.zero_le _) (Nat.le_of_ble_eq_true rfl) (n := 40) (ans := [Ans.go, Ans.reth (iV (M.liE xs n)) [some (.cells (ints xs) T .ro), some (.cells [iV (0 : Int), iV (0 : Int)] 25 .rw)], Ans.br false, Ans.reth (V.raw (.agg { toList := [.int .i64 (M.loA xs n), .int .i64 (M.hiA xs n)] })) [some (.cells (ints xs) T .ro), some (.cells [iV (0 : Int), iV (0 : Int)] 25 .rw)]]) (v := V.raw (.tuple { toList := [.agg { toList := [.int .i64 (M.loA xs n), .int .i64 (M.hiA xs n)] }, .int .i64 (0 : Int)] })) (h' := [some (.cells (ints xs) T .ro), some (.cells [iV (M.loA xs n), iV (M.hiA xs n)] 25 .rw)]) (cons := [(Meets cfx (0 : Nat) (21 : Nat) [.slo 0 n] [some (.cells (ints xs) T .ro), some (.cells [iV (0 : Int), iV (0 : Int)] 25 .rw)] (iV (M.liE xs n)) [some (.cells (ints xs) T .ro), some (.cells [iV (0 : Int), iV (0 : Int)] 25 .rw)]), ((!decide (M.liE xs n = (0 : Int))) = false), (Meets cfx (0 : Nat) (22 : Nat) [.slo 0 n] [some (.cells (ints xs) T .ro), some (.cells [iV (0 : Int), iV (0 : Int)] 25 .rw)] (V.raw (.agg { toList := [.int .i64 (M.loA xs n), .int .i64 (M.hiA xs n)] })) [some (.cells (ints xs) T .ro), some (.cells [iV (0 : Int), iV (0 : Int)] 25 .rw)])]) (by kernel_rfl)
    ⟨(by exact below1 (lim := 0) (N := []) rfl rfl 0 (tcCheck xs n T hz) (ints_all _) rfl (fun k X h => by simp at h) rfl (Nat.zero_le _)), (by first | assumption | (simp only [decide_eq_true_eq, decide_eq_false_iff_not, Bool.not_eq_true', Bool.not_eq_false']; first | assumption | omega) | (simp only [decide_eq_true_eq, decide_eq_false_iff_not, Bool.not_eq_true', Bool.not_eq_false']; done) | omega | (simp_all; done) | (simp_all; omega)), (by exact below1 (lim := 0) (N := []) rfl rfl 0 (tcAll0V xs n T hz (by have := (M.liE_0 hE).1; omega) (M.liE_0 hE).2) (ints_all _) rfl (fun k X h => by simp at h) rfl (Nat.zero_le _)), trivial⟩) (by kernel_rfl) (fun RT RH => reshape2 (lim := 0) 1 cfx_G rfl [] (by kernel_rfl) (by kernel_rfl) (by exact (ents_raw (ints_all _) rfl rfl (ents_nil))) RT RH)
theorem tcAll (xs : List Int) (n : Nat) (T : Nat) (hz : n * 2 ≤ xs.length) : Meets cfx 0 9 [.slo 0 n] [some (.cells (ints xs) T .ro)] (.raw (.tuple #[.agg #[.int .i64 (M.aLo xs n), .int .i64 (M.aHi xs n)], .int .i64 (M.liE xs n)])) [some (.cells (ints xs) T .ro)] := by
  unfold M.aLo M.aHi
  by_cases hE : M.liE xs n = 0
  · rw [if_pos hE, if_pos hE, hE]; exact tcAll_ok xs n T hz hE
  · rw [if_neg hE, if_neg hE]; exact tcAll_bad xs n T hz hE
theorem rcAll_bad (xs : List Int) (n : Nat) (T : Nat) (hz : n * 2 ≤ xs.length) (hE : ¬ M.liE xs n = 0)  : Meets cfx 0 10 [.slo 0 n] [some (.cells (ints xs) T .ro)] (V.raw (.tuple { toList := [.agg { toList := [.int .i64 (0 : Int), .int .i64 (0 : Int)] }, .int .i64 (M.liE xs n)] })) [some (.cells (ints xs) T .ro)] := by
  refine Meets.post (meets_ev cfx_mixed cfx_call (Nat.zero_le _) (Nat.le_of_ble_eq_true rfl) (n := 40) (ans := [Ans.go, Ans.reth (iV (M.liE xs n)) [some (.cells (ints xs) T .ro), some (.cells [iV (0 : Int), iV (0 : Int)] 25 .rw)], Ans.br true]) (v := V.raw (.tuple { toList := [.agg { toList := [.int .i64 (0 : Int), .int .i64 (0 : Int)] }, .int .i64 (M.liE xs n)] })) (h' := [some (.cells (ints xs) T .ro), some (.cells [iV (0 : Int), iV (0 : Int)] 25 .rw)]) (cons := [(Meets cfx (0 : Nat) (23 : Nat) [.slo 0 n] [some (.cells (ints xs) T .ro), some (.cells [iV (0 : Int), iV (0 : Int)] 25 .rw)] (iV (M.liE xs n)) [some (.cells (ints xs) T .ro), some (.cells [iV (0 : Int), iV (0 : Int)] 25 .rw)]), ((!decide (M.liE xs n = (0 : Int))) = true)]) (by kernel_rfl)
    ⟨(by exact below1 (lim := 0) (N := []) rfl rfl 0 (rcList xs n T hz) (ints_all _) rfl (fun k X h => by simp at h) rfl (Nat.zero_le _)), (by first | assumption | (simp only [decide_eq_true_eq, decide_eq_false_iff_not, Bool.not_eq_true', Bool.not_eq_false']; first | assumption | omega) | (simp only [decide_eq_true_eq, decide_eq_false_iff_not, Bool.not_eq_true', Bool.not_eq_false']; done) | omega | (simp_all; done) | (simp_all; omega)), trivial⟩) (by kernel_rfl) (fun RT RH => reshape2 (lim := 0) 1 cfx_G rfl [] (by kernel_rfl) (by kernel_rfl) (by exact (ents_raw (ints_all _) rfl rfl (ents_nil))) RT RH)
theorem rcAll_ok (xs : List Int) (n : Nat) (T : Nat) (hz : n * 2 ≤ xs.length) (hE : M.liE xs n = 0)  : Meets cfx 0 10 [.slo 0 n] [some (.cells (ints xs) T .ro)] (V.raw (.tuple { toList := [.agg { toList := [.int .i64 (M.loA xs n), .int .i64 (M.hiA xs n)] }, .int .i64 (0 : Int)] })) [some (.cells (ints xs) T .ro)] := by
  refine Meets.post (meets_ev cfx_mixed cfx_call (Nat.zero_le _) (Nat.le_of_ble_eq_true rfl) (n := 40) (ans := [Ans.go, Ans.reth (iV (M.liE xs n)) [some (.cells (ints xs) T .ro), some (.cells [iV (0 : Int), iV (0 : Int)] 25 .rw)], Ans.br false, Ans.reth (V.raw (.agg { toList := [.int .i64 (M.loA xs n), .int .i64 (M.hiA xs n)] })) [some (.cells (ints xs) T .ro), some (.cells [iV (0 : Int), iV (0 : Int)] 25 .rw)]]) (v := V.raw (.tuple { toList := [.agg { toList := [.int .i64 (M.loA xs n), .int .i64 (M.hiA xs n)] }, .int .i64 (0 : Int)] })) (h' := [some (.cells (ints xs) T .ro), some (.cells [iV (M.loA xs n), iV (M.hiA xs n)] 25 .rw)]) (cons := [(Meets cfx (0 : Nat) (23 : Nat) [.slo 0 n] [some (.cells (ints xs) T .ro), some (.cells [iV (0 : Int), iV (0 : Int)] 25 .rw)] (iV (M.liE xs n)) [some (.cells (ints xs) T .ro), some (.cells [iV (0 : Int), iV (0 : Int)] 25 .rw)]), ((!decide (M.liE xs n = (0 : Int))) = false), (Meets cfx (0 : Nat) (24 : Nat) [.slo 0 n] [some (.cells (ints xs) T .ro), some (.cells [iV (0 : Int), iV (0 : Int)] 25 .rw)] (V.raw (.agg { toList := [.int .i64 (M.loA xs n), .int .i64 (M.hiA xs n)] })) [some (.cells (ints xs) T .ro), some (.cells [iV (0 : Int), iV (0 : Int)] 25 .rw)])]) (by kernel_rfl)
    ⟨(by exact below1 (lim := 0) (N := []) rfl rfl 0 (rcList xs n T hz) (ints_all _) rfl (fun k X h => by simp at h) rfl (Nat.zero_le _)), (by first | assumption | (simp only [decide_eq_true_eq, decide_eq_false_iff_not, Bool.not_eq_true', Bool.not_eq_false']; first | assumption | omega) | (simp only [decide_eq_true_eq, decide_eq_false_iff_not, Bool.not_eq_true', Bool.not_eq_false']; done) | omega | (simp_all; done) | (simp_all; omega)), (by exact below1 (lim := 0) (N := []) rfl rfl 0 (rcAll0V xs n T hz (by have := (M.liE_0 hE).1; omega) (M.liE_0 hE).2) (ints_all _) rfl (fun k X h => by simp at h) rfl (Nat.zero_le _)), trivial⟩) (by kernel_rfl) (fun RT RH => reshape2 (lim := 0) 1 cfx_G rfl [] (by kernel_rfl) (by kernel_rfl) (by exact (ents_raw (ints_all _) rfl rfl (ents_nil))) RT RH)
theorem rcAll (xs : List Int) (n : Nat) (T : Nat) (hz : n * 2 ≤ xs.length) : Meets cfx 0 10 [.slo 0 n] [some (.cells (ints xs) T .ro)] (.raw (.tuple #[.agg #[.int .i64 (M.aLo xs n), .int .i64 (M.aHi xs n)], .int .i64 (M.liE xs n)])) [some (.cells (ints xs) T .ro)] := by
  unfold M.aLo M.aHi
  by_cases hE : M.liE xs n = 0
  · rw [if_pos hE, if_pos hE, hE]; exact rcAll_ok xs n T hz hE
  · rw [if_neg hE, if_neg hE]; exact rcAll_bad xs n T hz hE
def tay_T (xs : List Int) (n : Nat) (T : Nat) (i : Int) (zs : List Int) (t : Nat) : List V := [.slo 0 n, uV, .ptr 1 0, iV (0 : Int), iV (M.liE xs n), V.slo 2 t, uV, .any 7, .slo 0 n, iV (M.liE xs n), iV (M.liE xs n), V.raw (.bool !decide (M.liE xs n = (0 : Int))), uV, uV, .slo 0 n, iV (↑n : Int), iV i, .any 17, .any 18, .any 19, .any 20, .any 21, .any 22, .any 23, .any 24, .any 25, .any 26, .any 27, .any 28]
def tay_H (xs : List Int) (n : Nat) (T : Nat) (i : Int) (zs : List Int) (t : Nat) : Heap := [some (.cells (ints xs) T .ro), some (.cells [iV (0 : Int), iV (0 : Int)] 25 .rw), some (.cells (ints zs) 25 (Own.row 2))]
theorem tay_1 (xs : List Int) (n : Nat) (T : Nat) (hz : n * 2 ≤ xs.length) (hE : M.liE xs n = 0) (hn : n ≤ 64) (i : Int) (zs : List Int) (t : Nat) (hi1 : 0 ≤ i) (hl : zs.length = t * 2) (ht : t ≤ 1000) (hq : i < ↑n → (0 ≤ at' xs (i.toNat * 2) ∧ at' xs (i.toNat * 2) ≤ 1000000) ∧ (0 ≤ at' xs (i.toNat * 2 + 1) ∧ at' xs (i.toNat * 2 + 1) ≤ 1000000)) (f0 : i < (↑n : Int)) : Runs cfx 0 2 none (loopOf cfx.P 11 0) (tay_T xs n T i zs t) (tay_H xs n T i zs t) (Ex.normal) (tay_T xs n T (i + (1 : Int)) (zs ++ [(1000000 : Int) - at' xs (i.toNat * 2 + 1), (1000000 : Int) - at' xs (i.toNat * 2)]) (t + (1 : Nat))) (tay_H xs n T (i + (1 : Int)) (zs ++ [(1000000 : Int) - at' xs (i.toNat * 2 + 1), (1000000 : Int) - at' xs (i.toNat * 2)]) (t + (1 : Nat))) := by
  refine Runs.post (t1 := [.slo 0 n, uV, .ptr 1 0, iV (0 : Int), iV (M.liE xs n), .slo 5 (t + (1 : Nat)), uV, .ptr 3 0, .slo 0 n, iV (M.liE xs n), iV (M.liE xs n), V.raw (.bool !decide (M.liE xs n = (0 : Int))), uV, uV, .slo 0 n, iV (↑n : Int), iV (i + (1 : Int)), V.raw (.bool (decide (i < (↑n : Int)))), V.ptr (0 : Nat) (i.toNat * (2 : Nat)), (rowV xs (i.toNat * 2) 2), .slo 2 t, (rowV xs (i.toNat * 2) 2), V.raw (.agg { toList := [.int .i64 ((1000000 : Int) - at' xs (i.toNat * 2 + 1)), .int .i64 ((1000000 : Int) - at' xs (i.toNat * 2))] }), .slo 4 (1 : Nat), .slo 5 (t + (1 : Nat)), iV (i + (1 : Int)), .any 26, .any 27, .any 28]) (h1 := [some (.cells (ints xs) T .ro), some (.cells [iV (0 : Int), iV (0 : Int)] 25 .rw), none, some (.cells [iV (at' xs (i.toNat * 2)), iV (at' xs (i.toNat * 2 + 1))] 25 .rw), some (.cells [iV ((1000000 : Int) - at' xs (i.toNat * 2 + 1)), iV ((1000000 : Int) - at' xs (i.toNat * 2))] 25 (.row 2)), some (.cells (ints (zs ++ [(1000000 : Int) - at' xs (i.toNat * 2 + 1), (1000000 : Int) - at' xs (i.toNat * 2)])) 25 (.row 2))]) (body_of cfx_mixed cfx_call (Nat.zero_le _) (rnd := none) (fi := 0) (k := 0) (n := 40) (n0 := 2) (ans := [Ans.br true, Ans.val (0 : Nat) ((rowV xs (i.toNat * 2) 2)), Ans.ret (V.raw (.agg { toList := [.int .i64 ((1000000 : Int) - at' xs (i.toNat * 2 + 1)), .int .i64 ((1000000 : Int) - at' xs (i.toNat * 2))] })), Ans.cells (5 : Nat) (ints (zs ++ [(1000000 : Int) - at' xs (i.toNat * 2 + 1), (1000000 : Int) - at' xs (i.toNat * 2)]))]) (cons := [(decide (i < (↑n : Int)) = true), ((0 : Int) ≤ i ∧ i < (↑n : Int)), (loadRow cfx (25 : Nat) (ints xs) (i.toNat * (2 : Nat)) = some ((rowV xs (i.toNat * 2) 2))), (Ret cfx (25 : Nat) [V.raw (.agg { toList := [.int .i64 (at' xs (i.toNat * 2)), .int .i64 (at' xs (i.toNat * 2 + 1))] })] (V.raw (.agg { toList := [.int .i64 ((1000000 : Int) - at' xs (i.toNat * 2 + 1)), .int .i64 ((1000000 : Int) - at' xs (i.toNat * 2))] }))), ((1 : Nat) ≤ (9223372036854775807 : Nat)), ((1 : Nat) * (2 : Nat) ≤ List.length ([iV ((1000000 : Int) - at' xs (i.toNat * 2 + 1)), iV ((1000000 : Int) - at' xs (i.toNat * 2))] : List V)), (oneCells (List.take ((1 : Nat) * (2 : Nat)) ([iV ((1000000 : Int) - at' xs (i.toNat * 2 + 1)), iV ((1000000 : Int) - at' xs (i.toNat * 2))] : List V)) = true), (List.length ((ints zs) : List V) = t * (2 : Nat)), (t + (1 : Nat) ≤ maxLen ∧ (t + (1 : Nat)) * (16 : Nat) ≤ 140737488355328), (((ints zs) : List V) ++ (List.take ((1 : Nat) * (2 : Nat)) ([iV ((1000000 : Int) - at' xs (i.toNat * 2 + 1)), iV ((1000000 : Int) - at' xs (i.toNat * 2))] : List V)) = (ints (zs ++ [(1000000 : Int) - at' xs (i.toNat * 2 + 1), (1000000 : Int) - at' xs (i.toNat * 2)]))), (inR IntKind.i64 (i + (1 : Int)))]) (by kernel_rfl)
    ⟨(by first | omega | (simp; omega) | (simp_all; omega)), (by omega), (load_agg 2 (by kernel_rfl) (by kernel_rfl) (Nat.le_of_ble_eq_true rfl) (by omega)), (tcOpp _ _ (by omega) (by omega)), (by first | assumption | omega | (simp_all; done) | (simp_all; omega)), (by first | omega | (simp only [ints_len, putI_length, List.length_append, List.length_replicate, List.length_take, List.length_drop, List.length_cons, List.length_nil]; omega) | (simp only [ints_len, putI_length, List.length_append, List.length_replicate, List.length_take, List.length_drop, List.length_cons, List.length_nil]; done)), (by first | exact ones_take _ _ | rfl), (by first | omega | (simp only [ints_len, putI_length, List.length_append, List.length_replicate, List.length_take, List.length_drop, List.length_cons, List.length_nil]; omega) | (simp only [ints_len, putI_length, List.length_append, List.length_replicate, List.length_take, List.length_drop, List.length_cons, List.length_nil]; done)), (by unfold maxLen; constructor <;> omega), (by first | rfl | exact app_lit _ _ rfl | exact app_row _ _ _ | exact row_row0 _ _ | exact app_row0 _ _), inR_i64 (by omega) (by omega), trivial⟩ (Nat.le_of_ble_eq_true rfl) (Nat.le_of_ble_eq_true rfl) noRnd (noRanges (by kernel_rfl))) (fun RT RH => reshape2 (lim := 0) 2 cfx_G rfl [some 5] (by kernel_rfl) (by kernel_rfl) (by exact (ents_raw (ints_all _) rfl rfl (ents_say rfl rfl rfl rfl (ents_raw (ints_all _) rfl rfl (ents_nil))))) RT RH)
def tay_T2 (xs : List Int) (n : Nat) (T : Nat) (i : Int) (zs : List Int) (t : Nat) : List V := [.slo 0 n, uV, .ptr 1 0, iV (0 : Int), iV (M.liE xs n), .slo 2 t, uV, .any 7, .slo 0 n, iV (M.liE xs n), iV (M.liE xs n), V.raw (.bool !decide (M.liE xs n = (0 : Int))), uV, uV, .slo 0 n, iV (↑n : Int), iV i, .any 17, .any 18, .any 19, .any 20, .any 21, .any 22, .any 23, .any 24, .any 25, .any 26, .any 27, .any 28]
def tay_H2 (xs : List Int) (n : Nat) (T : Nat) (i : Int) (zs : List Int) (t : Nat) : Heap := [some (.cells (ints xs) T .ro), some (.cells [iV (0 : Int), iV (0 : Int)] 25 .rw), some (.cells (ints zs) 25 (.row 2))]
theorem tay_2 (xs : List Int) (n : Nat) (T : Nat) (hz : n * 2 ≤ xs.length) (hE : M.liE xs n = 0) (hn : n ≤ 64) (i : Int) (zs : List Int) (t : Nat) (hi1 : 0 ≤ i) (hl : zs.length = t * 2) (ht : t ≤ 1000) (hq : i < ↑n → (0 ≤ at' xs (i.toNat * 2) ∧ at' xs (i.toNat * 2) ≤ 1000000) ∧ (0 ≤ at' xs (i.toNat * 2 + 1) ∧ at' xs (i.toNat * 2 + 1) ≤ 1000000)) (f0 : ¬i < (↑n : Int)) : Runs cfx 0 2 none (loopOf cfx.P 11 0) (tay_T xs n T i zs t) (tay_H xs n T i zs t) (Ex.exit (0 : Nat)) (tay_T2 xs n T i zs t) (tay_H2 xs n T i zs t) := by
  refine Runs.post (t1 := [.slo 0 n, uV, .ptr 1 0, iV (0 : Int), iV (M.liE xs n), .slo 2 t, uV, .any 7, .slo 0 n, iV (M.liE xs n), iV (M.liE xs n), V.raw (.bool !decide (M.liE xs n = (0 : Int))), uV, uV, .slo 0 n, iV (↑n : Int), iV i, V.raw (.bool (decide (i < (↑n : Int)))), .any 18, .any 19, .any 20, .any 21, .any 22, .any 23, .any 24, .any 25, .any 26, .any 27, .any 28]) (h1 := [some (.cells (ints xs) T .ro), some (.cells [iV (0 : Int), iV (0 : Int)] 25 .rw), some (.cells (ints zs) 25 (.row 2))]) (body_of cfx_mixed cfx_call (Nat.zero_le _) (rnd := none) (fi := 0) (k := 0) (n := 40) (n0 := 2) (ans := [Ans.br false]) (cons := [(decide (i < (↑n : Int)) = false)]) (by kernel_rfl)
    ⟨(by first | omega | (simp; omega) | (simp_all; omega)), trivial⟩ (Nat.le_of_ble_eq_true rfl) (Nat.le_of_ble_eq_true rfl) noRnd (noRanges (by kernel_rfl))) (fun RT RH => reshape2 (lim := 0) 2 cfx_G rfl [some 2] (by kernel_rfl) (by kernel_rfl) (by exact (ents_raw (ints_all _) rfl rfl (ents_say rfl rfl rfl rfl (ents_raw (ints_all _) rfl rfl (ents_nil))))) RT RH)
def ray_T (xs : List Int) (n : Nat) (T : Nat) (i : Int) (zs : List Int) (t : Nat) : List V := [.slo 0 n, uV, .ptr 1 0, iV (0 : Int), iV (M.liE xs n), V.slo 2 t, iV i, uV, .slo 0 n, iV (M.liE xs n), iV (M.liE xs n), V.raw (.bool !decide (M.liE xs n = (0 : Int))), uV, uV, .any 14, .any 15, .any 16, .any 17, .any 18, .any 19, .any 20, .any 21, .any 22, .any 23, .any 24, .any 25, .any 26, .any 27, .any 28, .any 29, .any 30, .any 31, .any 32, .any 33, .any 34, .any 35, .any 36, .any 37, .any 38, .any 39, .any 40, .any 41, .any 42, .any 43, .any 44]
def ray_H (xs : List Int) (n : Nat) (T : Nat) (i : Int) (zs : List Int) (t : Nat) : Heap := [some (.cells (ints xs) T .ro), some (.cells [iV (0 : Int), iV (0 : Int)] 25 .rw), some (.cells (ints zs) 25 (Own.row 2))]
theorem ray_1 (xs : List Int) (n : Nat) (T : Nat) (hz : n * 2 ≤ xs.length) (hE : M.liE xs n = 0) (hn : n ≤ 64) (i : Int) (zs : List Int) (t : Nat) (hi1 : 0 ≤ i) (hl : zs.length = t * 2) (ht : t ≤ 1000) (hq : i < ↑n → (0 ≤ at' xs (i.toNat * 2) ∧ at' xs (i.toNat * 2) ≤ 1000000) ∧ (0 ≤ at' xs (i.toNat * 2 + 1) ∧ at' xs (i.toNat * 2 + 1) ≤ 1000000)) (f0 : i < (↑n : Int)) : Runs cfx 0 2 none (loopOf cfx.P 12 0) (ray_T xs n T i zs t) (ray_H xs n T i zs t) (Ex.normal) (ray_T xs n T (i + (1 : Int)) (zs ++ [(1000000 : Int) - at' xs (i.toNat * 2 + 1), (1000000 : Int) - at' xs (i.toNat * 2)]) (t + (1 : Nat))) (ray_H xs n T (i + (1 : Int)) (zs ++ [(1000000 : Int) - at' xs (i.toNat * 2 + 1), (1000000 : Int) - at' xs (i.toNat * 2)]) (t + (1 : Nat))) := by
  refine Runs.post (t1 := [.slo 0 n, uV, .ptr 1 0, iV (0 : Int), iV (M.liE xs n), .slo 4 (t + (1 : Nat)), iV (i + (1 : Int)), uV, .slo 0 n, iV (M.liE xs n), iV (M.liE xs n), V.raw (.bool !decide (M.liE xs n = (0 : Int))), uV, uV, iV i, .slo 0 n, iV (↑n : Int), V.raw (.bool (decide (i < (↑n : Int)))), iV i, iV (i + (1 : Int)), .slo 2 t, .slo 0 n, iV i, V.ptr (0 : Nat) (i.toNat * (2 : Nat)), V.ptr (0 : Nat) (i.toNat * (2 : Nat) + (1 : Nat)), iV (at' xs (i.toNat * 2 + 1)), iV ((1000000 : Int) - at' xs (i.toNat * 2 + 1)), .slo 0 n, iV i, V.ptr (0 : Nat) (i.toNat * (2 : Nat)), V.ptr (0 : Nat) (i.toNat * (2 : Nat)), iV (at' xs (i.toNat * 2)), iV ((1000000 : Int) - at' xs (i.toNat * 2)), V.raw (.agg { toList := [.int .i64 ((1000000 : Int) - at' xs (i.toNat * 2 + 1)), .int .i64 ((1000000 : Int) - at' xs (i.toNat * 2))] }), .slo 3 (1 : Nat), .slo 4 (t + (1 : Nat)), .any 36, .any 37, .any 38, .any 39, .any 40, .any 41, .any 42, .any 43, .any 44]) (h1 := [some (.cells (ints xs) T .ro), some (.cells [iV (0 : Int), iV (0 : Int)] 25 .rw), none, some (.cells [iV ((1000000 : Int) - at' xs (i.toNat * 2 + 1)), iV ((1000000 : Int) - at' xs (i.toNat * 2))] 25 (.row 2)), some (.cells (ints (zs ++ [(1000000 : Int) - at' xs (i.toNat * 2 + 1), (1000000 : Int) - at' xs (i.toNat * 2)])) 25 (.row 2))]) (body_of cfx_mixed cfx_call (Nat.zero_le _) (rnd := none) (fi := 0) (k := 0) (n := 40) (n0 := 2) (ans := [Ans.br true, Ans.olds [((15 : Nat), (9 : Nat)), ((15 : Nat), (5 : Nat))], Ans.val (0 : Nat) (iV (at' xs (i.toNat * 2 + 1))), Ans.val (0 : Nat) (iV (at' xs (i.toNat * 2))), Ans.cells (4 : Nat) (ints (zs ++ [(1000000 : Int) - at' xs (i.toNat * 2 + 1), (1000000 : Int) - at' xs (i.toNat * 2)]))]) (cons := [(decide (i < (↑n : Int)) = true), ((0 : Int) ≤ i ∧ i < (↑n : Int)), (loadRow cfx (2 : Nat) (ints xs) (i.toNat * (2 : Nat) + (1 : Nat)) = some (iV (at' xs (i.toNat * 2 + 1)))), (inR IntKind.i64 ((1000000 : Int) - at' xs (i.toNat * 2 + 1))), ((0 : Int) ≤ i ∧ i < (↑n : Int)), (loadRow cfx (2 : Nat) (ints xs) (i.toNat * (2 : Nat)) = some (iV (at' xs (i.toNat * 2)))), (inR IntKind.i64 ((1000000 : Int) - at' xs (i.toNat * 2))), ((1 : Nat) ≤ (9223372036854775807 : Nat)), ((1 : Nat) * (2 : Nat) ≤ List.length ([iV ((1000000 : Int) - at' xs (i.toNat * 2 + 1)), iV ((1000000 : Int) - at' xs (i.toNat * 2))] : List V)), (oneCells (List.take ((1 : Nat) * (2 : Nat)) ([iV ((1000000 : Int) - at' xs (i.toNat * 2 + 1)), iV ((1000000 : Int) - at' xs (i.toNat * 2))] : List V)) = true), (List.length ((ints zs) : List V) = t * (2 : Nat)), (t + (1 : Nat) ≤ maxLen ∧ (t + (1 : Nat)) * (16 : Nat) ≤ 140737488355328), (((ints zs) : List V) ++ (List.take ((1 : Nat) * (2 : Nat)) ([iV ((1000000 : Int) - at' xs (i.toNat * 2 + 1)), iV ((1000000 : Int) - at' xs (i.toNat * 2))] : List V)) = (ints (zs ++ [(1000000 : Int) - at' xs (i.toNat * 2 + 1), (1000000 : Int) - at' xs (i.toNat * 2)]))), ((ints (zs ++ [(1000000 : Int) - at' xs (i.toNat * 2 + 1), (1000000 : Int) - at' xs (i.toNat * 2)])).all isRawV = true), (inR IntKind.i64 (i + (1 : Int)))]) (by kernel_rfl)
    ⟨(by first | omega | (simp; omega) | (simp_all; omega)), (by omega), (load_one (by kernel_rfl) (by omega)), inR_i64 (by omega) (by omega), (by omega), (load_one (by kernel_rfl) (by omega)), inR_i64 (by omega) (by omega), (by first | assumption | omega | (simp_all; done) | (simp_all; omega)), (by first | omega | (simp only [ints_len, putI_length, List.length_append, List.length_replicate, List.length_take, List.length_drop, List.length_cons, List.length_nil]; omega) | (simp only [ints_len, putI_length, List.length_append, List.length_replicate, List.length_take, List.length_drop, List.length_cons, List.length_nil]; done)), (by first | exact ones_take _ _ | rfl), (by first | omega | (simp only [ints_len, putI_length, List.length_append, List.length_replicate, List.length_take, List.length_drop, List.length_cons, List.length_nil]; omega) | (simp only [ints_len, putI_length, List.length_append, List.length_replicate, List.length_take, List.length_drop, List.length_cons, List.length_nil]; done)), (by unfold maxLen; constructor <;> omega), (by first | rfl | exact app_lit _ _ rfl | exact app_row _ _ _ | exact row_row0 _ _ | exact app_row0 _ _), (by first | exact ints_all _ | rfl), inR_i64 (by omega) (by omega), trivial⟩ (Nat.le_of_ble_eq_true rfl) (Nat.le_of_ble_eq_true rfl) noRnd (noRanges (by kernel_rfl))) (fun RT RH => reshape2 (lim := 0) 2 cfx_G rfl [some 4] (by kernel_rfl) (by kernel_rfl) (by exact (ents_raw (ints_all _) rfl rfl (ents_say rfl rfl rfl rfl (ents_raw (ints_all _) rfl rfl (ents_nil))))) RT RH)
def ray_T2 (xs : List Int) (n : Nat) (T : Nat) (i : Int) (zs : List Int) (t : Nat) : List V := [.slo 0 n, uV, .ptr 1 0, iV (0 : Int), iV (M.liE xs n), .slo 2 t, iV i, uV, .slo 0 n, iV (M.liE xs n), iV (M.liE xs n), V.raw (.bool !decide (M.liE xs n = (0 : Int))), uV, uV, .any 14, .any 15, .any 16, .any 17, .any 18, .any 19, .any 20, .any 21, .any 22, .any 23, .any 24, .any 25, .any 26, .any 27, .any 28, .any 29, .any 30, .any 31, .any 32, .any 33, .any 34, .any 35, .any 36, .any 37, .any 38, .any 39, .any 40, .any 41, .any 42, .any 43, .any 44]
def ray_H2 (xs : List Int) (n : Nat) (T : Nat) (i : Int) (zs : List Int) (t : Nat) : Heap := [some (.cells (ints xs) T .ro), some (.cells [iV (0 : Int), iV (0 : Int)] 25 .rw), some (.cells (ints zs) 25 (.row 2))]
theorem ray_2 (xs : List Int) (n : Nat) (T : Nat) (hz : n * 2 ≤ xs.length) (hE : M.liE xs n = 0) (hn : n ≤ 64) (i : Int) (zs : List Int) (t : Nat) (hi1 : 0 ≤ i) (hl : zs.length = t * 2) (ht : t ≤ 1000) (hq : i < ↑n → (0 ≤ at' xs (i.toNat * 2) ∧ at' xs (i.toNat * 2) ≤ 1000000) ∧ (0 ≤ at' xs (i.toNat * 2 + 1) ∧ at' xs (i.toNat * 2 + 1) ≤ 1000000)) (f0 : ¬i < (↑n : Int)) : Runs cfx 0 2 none (loopOf cfx.P 12 0) (ray_T xs n T i zs t) (ray_H xs n T i zs t) (Ex.exit (0 : Nat)) (ray_T2 xs n T i zs t) (ray_H2 xs n T i zs t) := by
  refine Runs.post (t1 := [.slo 0 n, uV, .ptr 1 0, iV (0 : Int), iV (M.liE xs n), .slo 2 t, iV i, uV, .slo 0 n, iV (M.liE xs n), iV (M.liE xs n), V.raw (.bool !decide (M.liE xs n = (0 : Int))), uV, uV, iV i, .slo 0 n, iV (↑n : Int), V.raw (.bool (decide (i < (↑n : Int)))), .any 18, .any 19, .any 20, .any 21, .any 22, .any 23, .any 24, .any 25, .any 26, .any 27, .any 28, .any 29, .any 30, .any 31, .any 32, .any 33, .any 34, .any 35, .any 36, .any 37, .any 38, .any 39, .any 40, .any 41, .any 42, .any 43, .any 44]) (h1 := [some (.cells (ints xs) T .ro), some (.cells [iV (0 : Int), iV (0 : Int)] 25 .rw), some (.cells (ints zs) 25 (.row 2))]) (body_of cfx_mixed cfx_call (Nat.zero_le _) (rnd := none) (fi := 0) (k := 0) (n := 40) (n0 := 2) (ans := [Ans.br false]) (cons := [(decide (i < (↑n : Int)) = false)]) (by kernel_rfl)
    ⟨(by first | omega | (simp; omega) | (simp_all; omega)), trivial⟩ (Nat.le_of_ble_eq_true rfl) (Nat.le_of_ble_eq_true rfl) noRnd (noRanges (by kernel_rfl))) (fun RT RH => reshape2 (lim := 0) 2 cfx_G rfl [some 2] (by kernel_rfl) (by kernel_rfl) (by exact (ents_raw (ints_all _) rfl rfl (ents_say rfl rfl rfl rfl (ents_raw (ints_all _) rfl rfl (ents_nil))))) RT RH)
def M.yLo (xs : List Int) (n : Nat) : Int := if M.liE xs n = 0 then 1000000 - M.hiA (M.oppL xs n) n else 0
def M.yHi (xs : List Int) (n : Nat) : Int := if M.liE xs n = 0 then 1000000 - M.loA (M.oppL xs n) n else 0
theorem tay_loop (xs : List Int) (n : Nat) (T : Nat) (hz : n * 2 ≤ xs.length) (hE : M.liE xs n = 0) (hn : n ≤ 64) : Runs cfx 0 2 none (.loop (loopOf cfx.P 11 0)) (tay_T xs n T 0 [] 0) (tay_H xs n T 0 [] 0) (.exit 0) (tay_T2 xs n T n (M.oppL xs n) n) (tay_H2 xs n T n (M.oppL xs n) n) := by
  obtain ⟨g1, hv⟩ := M.liE_0 hE
  have key := upto (c := cfx) (lim := 0) (n0 := 2) (x := loopOf cfx.P 11 0) noRnd (fun i : Nat => tay_T xs n T i (M.oppL xs i) i) (fun i : Nat => tay_H xs n T i (M.oppL xs i) i) n (e := .exit 0) (by simp)
    (fun i hi => by
      have d := M.okL_at hv i hi
      have l := M.oppL_len xs i
      exact tay_1 xs n T hz hE hn i (M.oppL xs i) i (by omega) l (by omega) (fun _ => by simp only [Int.toNat_natCast]; omega) (by omega))
    (tay_2 xs n T hz hE hn n (M.oppL xs n) n (by omega) (M.oppL_len xs n) (by omega) (fun h => by omega) (by omega))
  exact key
theorem tcAny_ok (xs : List Int) (n : Nat) (T : Nat) (hz : n * 2 ≤ xs.length) (hE : M.liE xs n = 0) (hn : n ≤ 64) (hlo : 0 ≤ M.loA (M.oppL xs n) n ∧ M.loA (M.oppL xs n) n ≤ 1000000) (hhi : 0 ≤ M.hiA (M.oppL xs n) n ∧ M.hiA (M.oppL xs n) n ≤ 1000000) (hR : Runs cfx 0 2 none (.loop (loopOf cfx.P 11 0)) (tay_T xs n T 0 [] 0) (tay_H xs n T 0 [] 0) (.exit 0) (tay_T2 xs n T n (M.oppL xs n) n) (tay_H2 xs n T n (M.oppL xs n) n))  : Meets cfx 0 11 [.slo 0 n] [some (.cells (ints xs) T .ro)] (V.raw (.tuple { toList := [.agg { toList := [.int .i64 ((1000000 : Int) - M.hiA (M.oppL xs n) n), .int .i64 ((1000000 : Int) - M.loA (M.oppL xs n) n)] }, .int .i64 (0 : Int)] })) [some (.cells (ints xs) T .ro)] := by
  refine Meets.post (meets_ev cfx_mixed cfx_call (Nat.zero_le _) (Nat.le_of_ble_eq_true rfl) (n := 40) (ans := [Ans.go, Ans.reth (iV (M.liE xs n)) [some (.cells (ints xs) T .ro), some (.cells [iV (0 : Int), iV (0 : Int)] 25 .rw)], Ans.br false, Ans.loop (Ex.exit (0 : Nat)) [.slo 0 n, uV, .ptr 1 0, iV (0 : Int), iV (M.liE xs n), .slo 2 n, uV, .any 7, .slo 0 n, iV (M.liE xs n), iV (M.liE xs n), V.raw (.bool !decide (M.liE xs n = (0 : Int))), uV, uV, .slo 0 n, iV (↑n : Int), iV (↑n : Int), .any 17, .any 18, .any 19, .any 20, .any 21, .any 22, .any 23, .any 24, .any 25, .any 26, .any 27, .any 28] [some (.cells (ints xs) T .ro), some (.cells [iV (0 : Int), iV (0 : Int)] 25 .rw), some (.cells (ints (M.oppL xs n)) 25 (.row 2))], Ans.reth (V.raw (.agg { toList := [.int .i64 (M.loA (M.oppL xs n) n), .int .i64 (M.hiA (M.oppL xs n) n)] })) [some (.cells (ints xs) T .ro), some (.cells [iV (0 : Int), iV (0 : Int)] 25 .rw), some (.cells (ints (M.oppL xs n)) 25 (.row 2))], Ans.ret (V.raw (.agg { toList := [.int .i64 ((1000000 : Int) - M.hiA (M.oppL xs n) n), .int .i64 ((1000000 : Int) - M.loA (M.oppL xs n) n)] }))]) (v := V.raw (.tuple { toList := [.agg { toList := [.int .i64 ((1000000 : Int) - M.hiA (M.oppL xs n) n), .int .i64 ((1000000 : Int) - M.loA (M.oppL xs n) n)] }, .int .i64 (0 : Int)] })) (h' := [some (.cells (ints xs) T .ro), some (.cells [iV ((1000000 : Int) - M.hiA (M.oppL xs n) n), iV ((1000000 : Int) - M.loA (M.oppL xs n) n)] 25 .rw), some (.cells (ints (M.oppL xs n)) 25 (.row 2))]) (cons := [(Meets cfx (0 : Nat) (21 : Nat) [.slo 0 n] [some (.cells (ints xs) T .ro), some (.cells [iV (0 : Int), iV (0 : Int)] 25 .rw)] (iV (M.liE xs n)) [some (.cells (ints xs) T .ro), some (.cells [iV (0 : Int), iV (0 : Int)] 25 .rw)]), ((!decide (M.liE xs n = (0 : Int))) = false), (Runs cfx 0 (2 : Nat) none (.loop (loopOf cfx.P 11 0)) [.slo 0 n, uV, .ptr 1 0, iV (0 : Int), iV (M.liE xs n), V.raw (Value.slice none (0 : Nat) (0 : Nat)), uV, uV, .slo 0 n, iV (M.liE xs n), iV (M.liE xs n), V.raw (.bool !decide (M.liE xs n = (0 : Int))), uV, uV, .slo 0 n, iV (↑n : Int), iV (0 : Int), uV, uV, uV, uV, uV, uV, uV, uV, uV, uV, uV, uV] [some (.cells (ints xs) T .ro), some (.cells [iV (0 : Int), iV (0 : Int)] 25 .rw)] (Ex.exit (0 : Nat)) [.slo 0 n, uV, .ptr 1 0, iV (0 : Int), iV (M.liE xs n), .slo 2 n, uV, .any 7, .slo 0 n, iV (M.liE xs n), iV (M.liE xs n), V.raw (.bool !decide (M.liE xs n = (0 : Int))), uV, uV, .slo 0 n, iV (↑n : Int), iV (↑n : Int), .any 17, .any 18, .any 19, .any 20, .any 21, .any 22, .any 23, .any 24, .any 25, .any 26, .any 27, .any 28] [some (.cells (ints xs) T .ro), some (.cells [iV (0 : Int), iV (0 : Int)] 25 .rw), some (.cells (ints (M.oppL xs n)) 25 (.row 2))]), (Meets cfx (0 : Nat) (22 : Nat) [.slo 2 n] [some (.cells (ints xs) T .ro), some (.cells [iV (0 : Int), iV (0 : Int)] 25 .rw), some (.cells (ints (M.oppL xs n)) 25 (.row 2))] (V.raw (.agg { toList := [.int .i64 (M.loA (M.oppL xs n) n), .int .i64 (M.hiA (M.oppL xs n) n)] })) [some (.cells (ints xs) T .ro), some (.cells [iV (0 : Int), iV (0 : Int)] 25 .rw), some (.cells (ints (M.oppL xs n)) 25 (.row 2))]), (Ret cfx (25 : Nat) [V.raw (.agg { toList := [.int .i64 (M.loA (M.oppL xs n) n), .int .i64 (M.hiA (M.oppL xs n) n)] })] (V.raw (.agg { toList := [.int .i64 ((1000000 : Int) - M.hiA (M.oppL xs n) n), .int .i64 ((1000000 : Int) - M.loA (M.oppL xs n) n)] })))]) (by kernel_rfl)
    ⟨(by exact below1 (lim := 0) (N := []) rfl rfl 0 (tcCheck xs n T hz) (ints_all _) rfl (fun k X h => by simp at h) rfl (Nat.zero_le _)), (by first | assumption | (simp only [decide_eq_true_eq, decide_eq_false_iff_not, Bool.not_eq_true', Bool.not_eq_false']; first | assumption | omega) | (simp only [decide_eq_true_eq, decide_eq_false_iff_not, Bool.not_eq_true', Bool.not_eq_false']; done) | omega | (simp_all; done) | (simp_all; omega)), (by
      refine Runs.pre (fun b e => by cases e) (fun RT RH => ?_) (hR)
      exact reshape2 (lim := 0) 2 (t := [.slo 0 n, uV, .ptr 1 0, iV (0 : Int), iV (M.liE xs n), V.raw (Value.slice none (0 : Nat) (0 : Nat)), uV, uV, .slo 0 n, iV (M.liE xs n), iV (M.liE xs n), V.raw (.bool !decide (M.liE xs n = (0 : Int))), uV, uV, .slo 0 n, iV (↑n : Int), iV (0 : Int), uV, uV, uV, uV, uV, uV, uV, uV, uV, uV, uV, uV]) (h := [some (.cells (ints xs) T .ro), some (.cells [iV (0 : Int), iV (0 : Int)] 25 .rw)]) cfx_G rfl [none] (by kernel_rfl) (by kernel_rfl) (by repeat first | exact ents_nil | refine ents_none ?_ | refine ents_raw (ints_all _) rfl rfl ?_ | refine ents_raw (bools_all _) rfl rfl ?_ | refine ents_raw (mix_all _ _) rfl rfl ?_ | refine ents_say rfl rfl rfl rfl ?_ | refine ents_nilC rfl rfl ?_) RT RH), (by exact below1 (lim := 0) (N := []) rfl rfl 2 (tcAll0V (M.oppL xs n) n 25 (by rw [M.oppL_len]; omega) (by omega) (M.opp_ok (M.liE_0 hE).2)) (ints_all _) rfl (fun k X h => by simp at h) rfl (Nat.zero_le _)), (tcOpp _ _ hlo hhi), trivial⟩) (by kernel_rfl) (fun RT RH => reshape2 (lim := 0) 1 cfx_G rfl [] (by kernel_rfl) (by kernel_rfl) (by exact (ents_raw (ints_all _) rfl rfl (ents_nil))) RT RH)
theorem tcAny_bad (xs : List Int) (n : Nat) (T : Nat) (hz : n * 2 ≤ xs.length) (hE : ¬ M.liE xs n = 0)  : Meets cfx 0 11 [.slo 0 n] [some (.cells (ints xs) T .ro)] (V.raw (.tuple { toList := [.agg { toList := [.int .i64 (0 : Int), .int .i64 (0 : Int)] }, .int .i64 (M.liE xs n)] })) [some (.cells (ints xs) T .ro)] := by
  refine Meets.post (meets_ev cfx_mixed cfx_call (Nat.zero_le _) (Nat.le_of_ble_eq_true rfl) (n := 40) (ans := [Ans.go, Ans.reth (iV (M.liE xs n)) [some (.cells (ints xs) T .ro), some (.cells [iV (0 : Int), iV (0 : Int)] 25 .rw)], Ans.br true]) (v := V.raw (.tuple { toList := [.agg { toList := [.int .i64 (0 : Int), .int .i64 (0 : Int)] }, .int .i64 (M.liE xs n)] })) (h' := [some (.cells (ints xs) T .ro), some (.cells [iV (0 : Int), iV (0 : Int)] 25 .rw)]) (cons := [(Meets cfx (0 : Nat) (21 : Nat) [.slo 0 n] [some (.cells (ints xs) T .ro), some (.cells [iV (0 : Int), iV (0 : Int)] 25 .rw)] (iV (M.liE xs n)) [some (.cells (ints xs) T .ro), some (.cells [iV (0 : Int), iV (0 : Int)] 25 .rw)]), ((!decide (M.liE xs n = (0 : Int))) = true)]) (by kernel_rfl)
    ⟨(by exact below1 (lim := 0) (N := []) rfl rfl 0 (tcCheck xs n T hz) (ints_all _) rfl (fun k X h => by simp at h) rfl (Nat.zero_le _)), (by first | assumption | (simp only [decide_eq_true_eq, decide_eq_false_iff_not, Bool.not_eq_true', Bool.not_eq_false']; first | assumption | omega) | (simp only [decide_eq_true_eq, decide_eq_false_iff_not, Bool.not_eq_true', Bool.not_eq_false']; done) | omega | (simp_all; done) | (simp_all; omega)), trivial⟩) (by kernel_rfl) (fun RT RH => reshape2 (lim := 0) 1 cfx_G rfl [] (by kernel_rfl) (by kernel_rfl) (by exact (ents_raw (ints_all _) rfl rfl (ents_nil))) RT RH)
theorem tcAny (xs : List Int) (n : Nat) (T : Nat) (hz : n * 2 ≤ xs.length) : Meets cfx 0 11 [.slo 0 n] [some (.cells (ints xs) T .ro)] (.raw (.tuple #[.agg #[.int .i64 (M.yLo xs n), .int .i64 (M.yHi xs n)], .int .i64 (M.liE xs n)])) [some (.cells (ints xs) T .ro)] := by
  unfold M.yLo M.yHi
  by_cases hE : M.liE xs n = 0
  · have hn := (M.liE_0 hE).1
    have v := M.opp_ok (M.liE_0 hE).2
    rw [if_pos hE, if_pos hE, hE]; exact tcAny_ok xs n T hz hE hn (M.loA_in v n (by omega)) (M.hiA_in v n (by omega)) (tay_loop xs n T hz hE hn)
  · rw [if_neg hE, if_neg hE]; exact tcAny_bad xs n T hz hE
theorem ray_loop (xs : List Int) (n : Nat) (T : Nat) (hz : n * 2 ≤ xs.length) (hE : M.liE xs n = 0) (hn : n ≤ 64) : Runs cfx 0 2 none (.loop (loopOf cfx.P 12 0)) (ray_T xs n T 0 [] 0) (ray_H xs n T 0 [] 0) (.exit 0) (ray_T2 xs n T n (M.oppL xs n) n) (ray_H2 xs n T n (M.oppL xs n) n) := by
  obtain ⟨g1, hv⟩ := M.liE_0 hE
  have key := upto (c := cfx) (lim := 0) (n0 := 2) (x := loopOf cfx.P 12 0) noRnd (fun i : Nat => ray_T xs n T i (M.oppL xs i) i) (fun i : Nat => ray_H xs n T i (M.oppL xs i) i) n (e := .exit 0) (by simp)
    (fun i hi => by
      have d := M.okL_at hv i hi
      have l := M.oppL_len xs i
      exact ray_1 xs n T hz hE hn i (M.oppL xs i) i (by omega) l (by omega) (fun _ => by simp only [Int.toNat_natCast]; omega) (by omega))
    (ray_2 xs n T hz hE hn n (M.oppL xs n) n (by omega) (M.oppL_len xs n) (by omega) (fun h => by omega) (by omega))
  exact key
theorem rcAny_ok (xs : List Int) (n : Nat) (T : Nat) (hz : n * 2 ≤ xs.length) (hE : M.liE xs n = 0) (hn : n ≤ 64) (hlo : 0 ≤ M.loA (M.oppL xs n) n ∧ M.loA (M.oppL xs n) n ≤ 1000000) (hhi : 0 ≤ M.hiA (M.oppL xs n) n ∧ M.hiA (M.oppL xs n) n ≤ 1000000) (hR : Runs cfx 0 2 none (.loop (loopOf cfx.P 12 0)) (ray_T xs n T 0 [] 0) (ray_H xs n T 0 [] 0) (.exit 0) (ray_T2 xs n T n (M.oppL xs n) n) (ray_H2 xs n T n (M.oppL xs n) n))  : Meets cfx 0 12 [.slo 0 n] [some (.cells (ints xs) T .ro)] (V.raw (.tuple { toList := [.agg { toList := [.int .i64 ((1000000 : Int) - M.hiA (M.oppL xs n) n), .int .i64 ((1000000 : Int) - M.loA (M.oppL xs n) n)] }, .int .i64 (0 : Int)] })) [some (.cells (ints xs) T .ro)] := by
  refine Meets.post (meets_ev cfx_mixed cfx_call (Nat.zero_le _) (Nat.le_of_ble_eq_true rfl) (n := 40) (ans := [Ans.go, Ans.reth (iV (M.liE xs n)) [some (.cells (ints xs) T .ro), some (.cells [iV (0 : Int), iV (0 : Int)] 25 .rw)], Ans.br false, Ans.loop (Ex.exit (0 : Nat)) [.slo 0 n, uV, .ptr 1 0, iV (0 : Int), iV (M.liE xs n), .slo 2 n, iV (↑n : Int), uV, .slo 0 n, iV (M.liE xs n), iV (M.liE xs n), V.raw (.bool !decide (M.liE xs n = (0 : Int))), uV, uV, .any 14, .any 15, .any 16, .any 17, .any 18, .any 19, .any 20, .any 21, .any 22, .any 23, .any 24, .any 25, .any 26, .any 27, .any 28, .any 29, .any 30, .any 31, .any 32, .any 33, .any 34, .any 35, .any 36, .any 37, .any 38, .any 39, .any 40, .any 41, .any 42, .any 43, .any 44] [some (.cells (ints xs) T .ro), some (.cells [iV (0 : Int), iV (0 : Int)] 25 .rw), some (.cells (ints (M.oppL xs n)) 25 (.row 2))], Ans.reth (V.raw (.agg { toList := [.int .i64 (M.loA (M.oppL xs n) n), .int .i64 (M.hiA (M.oppL xs n) n)] })) [some (.cells (ints xs) T .ro), some (.cells [iV (0 : Int), iV (0 : Int)] 25 .rw), some (.cells (ints (M.oppL xs n)) 25 (.row 2))]]) (v := V.raw (.tuple { toList := [.agg { toList := [.int .i64 ((1000000 : Int) - M.hiA (M.oppL xs n) n), .int .i64 ((1000000 : Int) - M.loA (M.oppL xs n) n)] }, .int .i64 (0 : Int)] })) (h' := [some (.cells (ints xs) T .ro), some (.cells [iV ((1000000 : Int) - M.hiA (M.oppL xs n) n), iV ((1000000 : Int) - M.loA (M.oppL xs n) n)] 25 .rw), some (.cells (ints (M.oppL xs n)) 25 (.row 2)), some (.cells [iV (M.loA (M.oppL xs n) n), iV (M.hiA (M.oppL xs n) n)] 25 .rw)]) (cons := [(Meets cfx (0 : Nat) (23 : Nat) [.slo 0 n] [some (.cells (ints xs) T .ro), some (.cells [iV (0 : Int), iV (0 : Int)] 25 .rw)] (iV (M.liE xs n)) [some (.cells (ints xs) T .ro), some (.cells [iV (0 : Int), iV (0 : Int)] 25 .rw)]), ((!decide (M.liE xs n = (0 : Int))) = false), (Runs cfx 0 (2 : Nat) none (.loop (loopOf cfx.P 12 0)) [.slo 0 n, uV, .ptr 1 0, iV (0 : Int), iV (M.liE xs n), V.raw (Value.slice none (0 : Nat) (0 : Nat)), iV (0 : Int), uV, .slo 0 n, iV (M.liE xs n), iV (M.liE xs n), V.raw (.bool !decide (M.liE xs n = (0 : Int))), uV, uV, uV, uV, uV, uV, uV, uV, uV, uV, uV, uV, uV, uV, uV, uV, uV, uV, uV, uV, uV, uV, uV, uV, uV, uV, uV, uV, uV, uV, uV, uV, uV] [some (.cells (ints xs) T .ro), some (.cells [iV (0 : Int), iV (0 : Int)] 25 .rw)] (Ex.exit (0 : Nat)) [.slo 0 n, uV, .ptr 1 0, iV (0 : Int), iV (M.liE xs n), .slo 2 n, iV (↑n : Int), uV, .slo 0 n, iV (M.liE xs n), iV (M.liE xs n), V.raw (.bool !decide (M.liE xs n = (0 : Int))), uV, uV, .any 14, .any 15, .any 16, .any 17, .any 18, .any 19, .any 20, .any 21, .any 22, .any 23, .any 24, .any 25, .any 26, .any 27, .any 28, .any 29, .any 30, .any 31, .any 32, .any 33, .any 34, .any 35, .any 36, .any 37, .any 38, .any 39, .any 40, .any 41, .any 42, .any 43, .any 44] [some (.cells (ints xs) T .ro), some (.cells [iV (0 : Int), iV (0 : Int)] 25 .rw), some (.cells (ints (M.oppL xs n)) 25 (.row 2))]), (Meets cfx (0 : Nat) (24 : Nat) [.slo 2 n] [some (.cells (ints xs) T .ro), some (.cells [iV (0 : Int), iV (0 : Int)] 25 .rw), some (.cells (ints (M.oppL xs n)) 25 (.row 2))] (V.raw (.agg { toList := [.int .i64 (M.loA (M.oppL xs n) n), .int .i64 (M.hiA (M.oppL xs n) n)] })) [some (.cells (ints xs) T .ro), some (.cells [iV (0 : Int), iV (0 : Int)] 25 .rw), some (.cells (ints (M.oppL xs n)) 25 (.row 2))]), (inR IntKind.i64 ((1000000 : Int) - M.hiA (M.oppL xs n) n)), (inR IntKind.i64 ((1000000 : Int) - M.loA (M.oppL xs n) n))]) (by kernel_rfl)
    ⟨(by exact below1 (lim := 0) (N := []) rfl rfl 0 (rcList xs n T hz) (ints_all _) rfl (fun k X h => by simp at h) rfl (Nat.zero_le _)), (by first | assumption | (simp only [decide_eq_true_eq, decide_eq_false_iff_not, Bool.not_eq_true', Bool.not_eq_false']; first | assumption | omega) | (simp only [decide_eq_true_eq, decide_eq_false_iff_not, Bool.not_eq_true', Bool.not_eq_false']; done) | omega | (simp_all; done) | (simp_all; omega)), (by
      refine Runs.pre (fun b e => by cases e) (fun RT RH => ?_) (hR)
      exact reshape2 (lim := 0) 2 (t := [.slo 0 n, uV, .ptr 1 0, iV (0 : Int), iV (M.liE xs n), V.raw (Value.slice none (0 : Nat) (0 : Nat)), iV (0 : Int), uV, .slo 0 n, iV (M.liE xs n), iV (M.liE xs n), V.raw (.bool !decide (M.liE xs n = (0 : Int))), uV, uV, uV, uV, uV, uV, uV, uV, uV, uV, uV, uV, uV, uV, uV, uV, uV, uV, uV, uV, uV, uV, uV, uV, uV, uV, uV, uV, uV, uV, uV, uV, uV]) (h := [some (.cells (ints xs) T .ro), some (.cells [iV (0 : Int), iV (0 : Int)] 25 .rw)]) cfx_G rfl [none] (by kernel_rfl) (by kernel_rfl) (by repeat first | exact ents_nil | refine ents_none ?_ | refine ents_raw (ints_all _) rfl rfl ?_ | refine ents_raw (bools_all _) rfl rfl ?_ | refine ents_raw (mix_all _ _) rfl rfl ?_ | refine ents_say rfl rfl rfl rfl ?_ | refine ents_nilC rfl rfl ?_) RT RH), (by exact below1 (lim := 0) (N := []) rfl rfl 2 (rcAll0V (M.oppL xs n) n 25 (by rw [M.oppL_len]; omega) (by omega) (M.opp_ok (M.liE_0 hE).2)) (ints_all _) rfl (fun k X h => by simp at h) rfl (Nat.zero_le _)), inR_i64 (by omega) (by omega), inR_i64 (by omega) (by omega), trivial⟩) (by kernel_rfl) (fun RT RH => reshape2 (lim := 0) 1 cfx_G rfl [] (by kernel_rfl) (by kernel_rfl) (by exact (ents_raw (ints_all _) rfl rfl (ents_nil))) RT RH)
theorem rcAny_bad (xs : List Int) (n : Nat) (T : Nat) (hz : n * 2 ≤ xs.length) (hE : ¬ M.liE xs n = 0)  : Meets cfx 0 12 [.slo 0 n] [some (.cells (ints xs) T .ro)] (V.raw (.tuple { toList := [.agg { toList := [.int .i64 (0 : Int), .int .i64 (0 : Int)] }, .int .i64 (M.liE xs n)] })) [some (.cells (ints xs) T .ro)] := by
  refine Meets.post (meets_ev cfx_mixed cfx_call (Nat.zero_le _) (Nat.le_of_ble_eq_true rfl) (n := 40) (ans := [Ans.go, Ans.reth (iV (M.liE xs n)) [some (.cells (ints xs) T .ro), some (.cells [iV (0 : Int), iV (0 : Int)] 25 .rw)], Ans.br true]) (v := V.raw (.tuple { toList := [.agg { toList := [.int .i64 (0 : Int), .int .i64 (0 : Int)] }, .int .i64 (M.liE xs n)] })) (h' := [some (.cells (ints xs) T .ro), some (.cells [iV (0 : Int), iV (0 : Int)] 25 .rw)]) (cons := [(Meets cfx (0 : Nat) (23 : Nat) [.slo 0 n] [some (.cells (ints xs) T .ro), some (.cells [iV (0 : Int), iV (0 : Int)] 25 .rw)] (iV (M.liE xs n)) [some (.cells (ints xs) T .ro), some (.cells [iV (0 : Int), iV (0 : Int)] 25 .rw)]), ((!decide (M.liE xs n = (0 : Int))) = true)]) (by kernel_rfl)
    ⟨(by exact below1 (lim := 0) (N := []) rfl rfl 0 (rcList xs n T hz) (ints_all _) rfl (fun k X h => by simp at h) rfl (Nat.zero_le _)), (by first | assumption | (simp only [decide_eq_true_eq, decide_eq_false_iff_not, Bool.not_eq_true', Bool.not_eq_false']; first | assumption | omega) | (simp only [decide_eq_true_eq, decide_eq_false_iff_not, Bool.not_eq_true', Bool.not_eq_false']; done) | omega | (simp_all; done) | (simp_all; omega)), trivial⟩) (by kernel_rfl) (fun RT RH => reshape2 (lim := 0) 1 cfx_G rfl [] (by kernel_rfl) (by kernel_rfl) (by exact (ents_raw (ints_all _) rfl rfl (ents_nil))) RT RH)
theorem rcAny (xs : List Int) (n : Nat) (T : Nat) (hz : n * 2 ≤ xs.length) : Meets cfx 0 12 [.slo 0 n] [some (.cells (ints xs) T .ro)] (.raw (.tuple #[.agg #[.int .i64 (M.yLo xs n), .int .i64 (M.yHi xs n)], .int .i64 (M.liE xs n)])) [some (.cells (ints xs) T .ro)] := by
  unfold M.yLo M.yHi
  by_cases hE : M.liE xs n = 0
  · have hn := (M.liE_0 hE).1
    have v := M.opp_ok (M.liE_0 hE).2
    rw [if_pos hE, if_pos hE, hE]; exact rcAny_ok xs n T hz hE hn (M.loA_in v n (by omega)) (M.hiA_in v n (by omega)) (ray_loop xs n T hz hE hn)
  · rw [if_neg hE, if_neg hE]; exact rcAny_bad xs n T hz hE
theorem M.quo_in {a d : Int} (ha : 0 ≤ a) (ha' : a ≤ 1099511627776) (hd : 0 ≤ d) : 0 ≤ a.tdiv d ∧ a.tdiv d ≤ 1099511627776 :=
  ⟨Int.tdiv_nonneg ha hd, Int.le_trans (Int.tdiv_le_self _ ha) ha'⟩
theorem chance_ok (k n d : Int) (hn : 0 ≤ n ∧ n ≤ 1048576) (hk : 0 ≤ k ∧ k ≤ n) (hd : 1 ≤ d ∧ d ≤ 100) : Ret cfx 7 [.raw (.int .i64 k), .raw (.int .i64 n), .raw (.int .i64 d)] (.raw (.tuple #[.agg #[.int .i64 ((k * 1000000).tdiv (n + d)), .int .i64 (((k + d) * 1000000 + (n + d) - 1).tdiv (n + d))], .int .i64 (0)])) ∧ Ret cfx 8 [.raw (.int .i64 k), .raw (.int .i64 n), .raw (.int .i64 d)] (.raw (.tuple #[.agg #[.int .i64 ((k * 1000000).tdiv (n + d)), .int .i64 (((k + d) * 1000000 + (n + d) - 1).tdiv (n + d))], .int .i64 (0)])) := by
  have q := M.quo_in (a := k * 1000000) (d := n + d) (by omega) (by omega) (by omega)
  have r := M.quo_in (a := (k + d) * 1000000 + (n + d) - 1) (d := n + d) (by omega) (by omega) (by omega)
  exact ⟨tcChance_ok k n d hn hk hd q r, rcChance_ok k n d hn hk hd q r⟩
theorem chance_both (k n d : Int) : ∃ p q e : Int, Ret cfx 7 [.raw (.int .i64 k), .raw (.int .i64 n), .raw (.int .i64 d)] (.raw (.tuple #[.agg #[.int .i64 (p), .int .i64 (q)], .int .i64 (e)])) ∧ Ret cfx 8 [.raw (.int .i64 k), .raw (.int .i64 n), .raw (.int .i64 d)] (.raw (.tuple #[.agg #[.int .i64 (p), .int .i64 (q)], .int .i64 (e)])) := by
  by_cases h1 : 0 ≤ n
  case neg => exact ⟨0, 0, 3, tcChance_n1 k n d (by omega), rcChance_n1 k n d (by omega)⟩
  by_cases h2 : n ≤ 1048576
  case neg => exact ⟨0, 0, 3, tcChance_n2 k n d (by omega), rcChance_n2 k n d (by omega)⟩
  by_cases h3 : 0 ≤ k
  case neg => exact ⟨0, 0, 3, tcChance_k1 k n d ⟨h1, h2⟩ (by omega), rcChance_k1 k n d ⟨h1, h2⟩ (by omega)⟩
  by_cases h4 : k ≤ n
  case neg => exact ⟨0, 0, 3, tcChance_k2 k n d ⟨h1, h2⟩ (by omega), rcChance_k2 k n d ⟨h1, h2⟩ (by omega)⟩
  by_cases h5 : 1 ≤ d
  case neg => exact ⟨0, 0, 3, tcChance_d1 k n d ⟨h1, h2⟩ ⟨h3, h4⟩ (by omega), rcChance_d1 k n d ⟨h1, h2⟩ ⟨h3, h4⟩ (by omega)⟩
  by_cases h6 : d ≤ 100
  case neg => exact ⟨0, 0, 3, tcChance_d2 k n d ⟨h1, h2⟩ ⟨h3, h4⟩ (by omega), rcChance_d2 k n d ⟨h1, h2⟩ ⟨h3, h4⟩ (by omega)⟩
  exact ⟨_, _, _, chance_ok k n d ⟨h1, h2⟩ ⟨h3, h4⟩ ⟨h5, h6⟩⟩
theorem tch_big (xs : List Int) (n : Nat) (T : Nat) (hz : n * 2 ≤ xs.length) (k m d : Int) (hm : 100 < n)  : Meets cfx 0 3 [.raw (.int .i64 k), .raw (.int .i64 m), .raw (.int .i64 d), .slo 0 n] [some (.cells (ints xs) T .ro)] (V.raw (.bool true)) [some (.cells (ints xs) T .ro)] := by
  refine Meets.post (meets_ev cfx_mixed cfx_call (Nat.zero_le _) (Nat.le_of_ble_eq_true rfl) (n := 40) (ans := [Ans.go, Ans.br true, Ans.ret (V.raw (.bool true))]) (v := V.raw (.bool true)) (h' := [some (.cells (ints xs) T .ro)]) (cons := [(decide ((100 : Int) < (↑n : Int)) = true), (Ret cfx (6 : Nat) [] (V.raw (.bool true)))]) (by kernel_rfl)
    ⟨(by first | omega | (simp; omega) | (simp_all; omega)), (fine), trivial⟩) (by kernel_rfl) (fun RT RH => reshape2 (lim := 0) 1 cfx_G rfl [] (by kernel_rfl) (by kernel_rfl) (by exact (ents_raw (ints_all _) rfl rfl (ents_nil))) RT RH)
theorem tch_ok (xs : List Int) (n : Nat) (T : Nat) (hz : n * 2 ≤ xs.length) (k m d : Int) (hm : n ≤ 100) (p q e a0 a1 y0 y1 E : Int) (hA : Ret cfx 7 [.raw (.int .i64 k), .raw (.int .i64 m), .raw (.int .i64 d)] (.raw (.tuple #[.agg #[.int .i64 (p), .int .i64 (q)], .int .i64 (e)]))) (hB : Ret cfx 8 [.raw (.int .i64 k), .raw (.int .i64 m), .raw (.int .i64 d)] (.raw (.tuple #[.agg #[.int .i64 (p), .int .i64 (q)], .int .i64 (e)]))) (hC : Meets cfx 0 9 [.slo 0 n] [some (.cells (ints xs) T .ro)] (.raw (.tuple #[.agg #[.int .i64 (a0), .int .i64 (a1)], .int .i64 (E)])) [some (.cells (ints xs) T .ro)]) (hD : Meets cfx 0 10 [.slo 0 n] [some (.cells (ints xs) T .ro)] (.raw (.tuple #[.agg #[.int .i64 (a0), .int .i64 (a1)], .int .i64 (E)])) [some (.cells (ints xs) T .ro)]) (hX : Meets cfx 0 11 [.slo 0 n] [some (.cells (ints xs) T .ro)] (.raw (.tuple #[.agg #[.int .i64 (y0), .int .i64 (y1)], .int .i64 (E)])) [some (.cells (ints xs) T .ro)]) (hY : Meets cfx 0 12 [.slo 0 n] [some (.cells (ints xs) T .ro)] (.raw (.tuple #[.agg #[.int .i64 (y0), .int .i64 (y1)], .int .i64 (E)])) [some (.cells (ints xs) T .ro)])  : Meets cfx 0 3 [.raw (.int .i64 k), .raw (.int .i64 m), .raw (.int .i64 d), .slo 0 n] [some (.cells (ints xs) T .ro)] (V.raw (.bool true)) [some (.cells (ints xs) T .ro)] := by
  refine Meets.post (meets_ev cfx_mixed cfx_call (Nat.zero_le _) (Nat.le_of_ble_eq_true rfl) (n := 40) (ans := [Ans.go, Ans.br false, Ans.ret (V.raw (.tuple { toList := [.agg { toList := [.int .i64 p, .int .i64 q] }, .int .i64 e] })), Ans.ret (V.raw (.tuple { toList := [.agg { toList := [.int .i64 p, .int .i64 q] }, .int .i64 e] })), Ans.reth (V.raw (.tuple { toList := [.agg { toList := [.int .i64 a0, .int .i64 a1] }, .int .i64 E] })) [some (.cells (ints xs) T .ro), some (.cells [iV p, iV q] 25 .rw), some (.cells [iV p, iV q] 25 .rw)], Ans.reth (V.raw (.tuple { toList := [.agg { toList := [.int .i64 a0, .int .i64 a1] }, .int .i64 E] })) [some (.cells (ints xs) T .ro), some (.cells [iV p, iV q] 25 .rw), some (.cells [iV p, iV q] 25 .rw), some (.cells [iV a0, iV a1] 25 .rw)], Ans.reth (V.raw (.tuple { toList := [.agg { toList := [.int .i64 y0, .int .i64 y1] }, .int .i64 E] })) [some (.cells (ints xs) T .ro), some (.cells [iV p, iV q] 25 .rw), some (.cells [iV p, iV q] 25 .rw), some (.cells [iV a0, iV a1] 25 .rw), some (.cells [iV a0, iV a1] 25 .rw)], Ans.reth (V.raw (.tuple { toList := [.agg { toList := [.int .i64 y0, .int .i64 y1] }, .int .i64 E] })) [some (.cells (ints xs) T .ro), some (.cells [iV p, iV q] 25 .rw), some (.cells [iV p, iV q] 25 .rw), some (.cells [iV a0, iV a1] 25 .rw), some (.cells [iV a0, iV a1] 25 .rw), some (.cells [iV y0, iV y1] 25 .rw)], Ans.br true, Ans.br true, Ans.br true, Ans.br true, Ans.br true, Ans.br true, Ans.br true, Ans.br true, Ans.br true, Ans.br true, Ans.br true, Ans.ret (V.raw (.bool true)), Ans.br true]) (v := V.raw (.bool true)) (h' := [some (.cells (ints xs) T .ro), some (.cells [iV p, iV q] 25 .rw), some (.cells [iV p, iV q] 25 .rw), some (.cells [iV a0, iV a1] 25 .rw), some (.cells [iV a0, iV a1] 25 .rw), some (.cells [iV y0, iV y1] 25 .rw), some (.cells [iV y0, iV y1] 25 .rw)]) (cons := [(decide ((100 : Int) < (↑n : Int)) = false), (Ret cfx (7 : Nat) [iV k, iV m, iV d] (V.raw (.tuple { toList := [.agg { toList := [.int .i64 p, .int .i64 q] }, .int .i64 e] }))), (Ret cfx (8 : Nat) [iV k, iV m, iV d] (V.raw (.tuple { toList := [.agg { toList := [.int .i64 p, .int .i64 q] }, .int .i64 e] }))), (Meets cfx (0 : Nat) (9 : Nat) [.slo 0 n] [some (.cells (ints xs) T .ro), some (.cells [iV p, iV q] 25 .rw), some (.cells [iV p, iV q] 25 .rw)] (V.raw (.tuple { toList := [.agg { toList := [.int .i64 a0, .int .i64 a1] }, .int .i64 E] })) [some (.cells (ints xs) T .ro), some (.cells [iV p, iV q] 25 .rw), some (.cells [iV p, iV q] 25 .rw)]), (Meets cfx (0 : Nat) (10 : Nat) [.slo 0 n] [some (.cells (ints xs) T .ro), some (.cells [iV p, iV q] 25 .rw), some (.cells [iV p, iV q] 25 .rw), some (.cells [iV a0, iV a1] 25 .rw)] (V.raw (.tuple { toList := [.agg { toList := [.int .i64 a0, .int .i64 a1] }, .int .i64 E] })) [some (.cells (ints xs) T .ro), some (.cells [iV p, iV q] 25 .rw), some (.cells [iV p, iV q] 25 .rw), some (.cells [iV a0, iV a1] 25 .rw)]), (Meets cfx (0 : Nat) (11 : Nat) [.slo 0 n] [some (.cells (ints xs) T .ro), some (.cells [iV p, iV q] 25 .rw), some (.cells [iV p, iV q] 25 .rw), some (.cells [iV a0, iV a1] 25 .rw), some (.cells [iV a0, iV a1] 25 .rw)] (V.raw (.tuple { toList := [.agg { toList := [.int .i64 y0, .int .i64 y1] }, .int .i64 E] })) [some (.cells (ints xs) T .ro), some (.cells [iV p, iV q] 25 .rw), some (.cells [iV p, iV q] 25 .rw), some (.cells [iV a0, iV a1] 25 .rw), some (.cells [iV a0, iV a1] 25 .rw)]), (Meets cfx (0 : Nat) (12 : Nat) [.slo 0 n] [some (.cells (ints xs) T .ro), some (.cells [iV p, iV q] 25 .rw), some (.cells [iV p, iV q] 25 .rw), some (.cells [iV a0, iV a1] 25 .rw), some (.cells [iV a0, iV a1] 25 .rw), some (.cells [iV y0, iV y1] 25 .rw)] (V.raw (.tuple { toList := [.agg { toList := [.int .i64 y0, .int .i64 y1] }, .int .i64 E] })) [some (.cells (ints xs) T .ro), some (.cells [iV p, iV q] 25 .rw), some (.cells [iV p, iV q] 25 .rw), some (.cells [iV a0, iV a1] 25 .rw), some (.cells [iV a0, iV a1] 25 .rw), some (.cells [iV y0, iV y1] 25 .rw)]), ((decide (p = p) && (decide (q = q) && true)) = true), (true = true), (decide (e = e) = true), (true = true), ((decide (a0 = a0) && (decide (a1 = a1) && true)) = true), (true = true), (decide (E = E) = true), (true = true), ((decide (y0 = y0) && (decide (y1 = y1) && true)) = true), (true = true), (decide (E = E) = true), (Ret cfx (6 : Nat) [] (V.raw (.bool true))), (true = true)]) (by kernel_rfl)
    ⟨(by first | omega | (simp; omega) | (simp_all; omega)), (hA), (hB), (by exact below1 (lim := 0) (N := []) rfl rfl 0 (hC) (ints_all _) rfl (fun k X h => by simp at h) rfl (Nat.zero_le _)), (by exact below1 (lim := 0) (N := []) rfl rfl 0 (hD) (ints_all _) rfl (fun k X h => by simp at h) rfl (Nat.zero_le _)), (by exact below1 (lim := 0) (N := []) rfl rfl 0 (hX) (ints_all _) rfl (fun k X h => by simp at h) rfl (Nat.zero_le _)), (by exact below1 (lim := 0) (N := []) rfl rfl 0 (hY) (ints_all _) rfl (fun k X h => by simp at h) rfl (Nat.zero_le _)), (by first | assumption | (simp only [decide_eq_true_eq, decide_eq_false_iff_not, Bool.not_eq_true', Bool.not_eq_false']; first | assumption | omega) | (simp only [decide_eq_true_eq, decide_eq_false_iff_not, Bool.not_eq_true', Bool.not_eq_false']; done) | omega | (simp_all; done) | (simp_all; omega)), rfl, (by first | assumption | (simp only [decide_eq_true_eq, decide_eq_false_iff_not, Bool.not_eq_true', Bool.not_eq_false']; first | assumption | omega) | (simp only [decide_eq_true_eq, decide_eq_false_iff_not, Bool.not_eq_true', Bool.not_eq_false']; done) | omega | (simp_all; done) | (simp_all; omega)), rfl, (by first | assumption | (simp only [decide_eq_true_eq, decide_eq_false_iff_not, Bool.not_eq_true', Bool.not_eq_false']; first | assumption | omega) | (simp only [decide_eq_true_eq, decide_eq_false_iff_not, Bool.not_eq_true', Bool.not_eq_false']; done) | omega | (simp_all; done) | (simp_all; omega)), rfl, (by first | assumption | (simp only [decide_eq_true_eq, decide_eq_false_iff_not, Bool.not_eq_true', Bool.not_eq_false']; first | assumption | omega) | (simp only [decide_eq_true_eq, decide_eq_false_iff_not, Bool.not_eq_true', Bool.not_eq_false']; done) | omega | (simp_all; done) | (simp_all; omega)), rfl, (by first | assumption | (simp only [decide_eq_true_eq, decide_eq_false_iff_not, Bool.not_eq_true', Bool.not_eq_false']; first | assumption | omega) | (simp only [decide_eq_true_eq, decide_eq_false_iff_not, Bool.not_eq_true', Bool.not_eq_false']; done) | omega | (simp_all; done) | (simp_all; omega)), rfl, (by first | assumption | (simp only [decide_eq_true_eq, decide_eq_false_iff_not, Bool.not_eq_true', Bool.not_eq_false']; first | assumption | omega) | (simp only [decide_eq_true_eq, decide_eq_false_iff_not, Bool.not_eq_true', Bool.not_eq_false']; done) | omega | (simp_all; done) | (simp_all; omega)), (fine), rfl, trivial⟩) (by kernel_rfl) (fun RT RH => reshape2 (lim := 0) 1 cfx_G rfl [] (by kernel_rfl) (by kernel_rfl) (by exact (ents_raw (ints_all _) rfl rfl (ents_nil))) RT RH)
theorem tacticsChances (xs : List Int) (n : Nat) (T : Nat) (hz : n * 2 ≤ xs.length) (k m d : Int) : Meets cfx 0 3 [.raw (.int .i64 k), .raw (.int .i64 m), .raw (.int .i64 d), .slo 0 n] [some (.cells (ints xs) T .ro)] (.raw (.bool true)) [some (.cells (ints xs) T .ro)] := by
  by_cases hm : n ≤ 100
  · obtain ⟨p, q, e, hA, hB⟩ := chance_both k m d
    exact tch_ok xs n T hz k m d hm p q e _ _ _ _ _ hA hB (tcAll xs n T hz) (rcAll xs n T hz) (tcAny xs n T hz) (rcAny xs n T hz)
  · exact tch_big xs n T hz k m d (by omega)
end Go.Proofs.Ytnapkmimllipjaa
end
section
namespace Go.Proofs.Ytnapkmimllipjaa
open Go Go.ChangeShapes Go.WideShapes Go.ChangeAt Go.RowKit
theorem own : ownKnob Try.prog.godebug = none := by kernel_rfl
theorem laidOut : laidOutB Try.prog = true := by kernel_rfl
noncomputable def laidWorld (os : Os) : World := World.holding Try.prog os ⟨#[], #[], []⟩
end Go.Proofs.Ytnapkmimllipjaa
end
section
namespace Go.Proofs.Ytnapkmimllipjaa
open Go Go.ChangeShapes Go.WideShapes Go.ChangeAt Go.RowKit
namespace tacticsChances
theorem readable : ∀ t ∈ Try.f3.params.toList, Try.prog.readableRec t = true ∧ t < Try.prog.types.size := fun t ht => by
  have h := List.all_eq_true.1 (show (Try.f3.params.toList.all fun t => Try.prog.readableRec t && decide (t < Try.prog.types.size)) = true by kernel_rfl) t ht
  rw [Bool.and_eq_true, decide_eq_true_eq] at h
  exact h
theorem contract (H : Type) (enc : TypeId × Value → H) (W : World) (base : Nat) (args : Array Value) (ds gs : List (DataW H)) (before : List MemPlace)
    (hval : ∀ (j : Nat) t v, Try.f3.params[j]? = some t → args[j]? = some v → Value.okWide Try.prog W .any base t v)
    (hW : DataW.Whole enc Try.prog Try.f3.params.toList Rows.tacticsChancesSpec.vars false W args.toList ds gs before) :
    Calls Try.prog 3 args W fun e W' => ∃ v, e = .returned v ∧ Rows.tacticsChancesSpec.post enc Try.prog Try.f3 false true false false W args v W' := by
  have hW' := hW
  obtain ⟨p, q, hA0, hV, rfl, hfz, hnd⟩ := hW
  have hA : DataW.TrodAll enc Try.prog W 0 (fun _ => true) true Try.f3.params.toList args.toList ds p := hA0
  rw [Try.params3] at hA hval
  obtain ⟨v0, vs0, d0, ds0, p0, q0, hargs, rfl, rfl, h0, r0⟩ := trodAll_cons hA
  obtain ⟨v1, vs1, d1, ds1, p1, q1, rfl, rfl, rfl, h1, r1⟩ := trodAll_cons r0
  obtain ⟨v2, vs2, d2, ds2, p2, q2, rfl, rfl, rfl, h2, r2⟩ := trodAll_cons r1
  obtain ⟨v3, vs3, d3, ds3, p3, q3, rfl, rfl, rfl, h3, r3⟩ := trodAll_cons r2
  obtain ⟨rfl, rfl, rfl⟩ := trodAll_nil r3
  obtain rfl : args = #[v0, v1, v2, v3] := by cases args; simp_all
  obtain ⟨rfl, rfl⟩ := trodVars_none hV
  obtain ⟨k, rfl, _, _, xk⟩ := open_int Try.underlying2 (hval 0 2 v0 rfl rfl) h0
  have yk := bounds_i64 xk
  obtain ⟨m, rfl, _, _, xm⟩ := open_int Try.underlying2 (hval 1 2 v1 rfl rfl) h1
  have ym := bounds_i64 xm
  obtain ⟨d, rfl, _, _, xd⟩ := open_int Try.underlying2 (hval 2 2 v2 rfl rfl) h2
  have yd := bounds_i64 xd
  obtain ⟨l_l, l_m, l_z, l_T, rfl, l_len, l_rng, l_ok⟩ := K.open_row Try.underlying22 (show K.flatK Try.prog 9 25 = some (List.replicate 2 (some .i64)) by kernel_rfl) (show Try.prog.cellsOf 25 = 2 by kernel_rfl) (by decide) (hval 3 22 v3 rfl rfl) h3
  clear hA0
  have hR := E2.calls_rows (c := cfx) (args := [.raw (.int .i64 k), .raw (.int .i64 m), .raw (.int .i64 d), .slo 0 l_m]) (x := .bool true) (tacticsChances l_z l_m l_T (by omega) k m d) rfl rfl [l_l] W rfl (E2.rows_cons l_ok (E2.rows_nil)) rfl
  refine Calls.mono hR fun e W' hw => ?_
  exact ⟨_, hw.1, K.law_post laidOut readable (by kernel_rfl) Try.underlying4 rfl hW' rfl hw.2⟩
theorem laid_met (os : Os) : laidMet Try.prog Rows.tacticsChancesRow.laid ((laidWorld os).forCall (fun _ _ => 0) ⟨#[], #[.int .i64 0, .int .i64 0, .int .i64 0, .slice none 0 0], []⟩).memory :=
  laidMet_of_run' 8 (by kernel_rfl) (by kernel_rfl)
theorem reads (os : Os) {H : Type} (enc : TypeId × Value → H) : ∃ places, DataW.whole enc Try.prog ((laidWorld os).forCall (fun _ _ => 0) ⟨#[], #[.int .i64 0, .int .i64 0, .int .i64 0, .slice none 0 0], []⟩).memory Try.f3.params.toList Rows.tacticsChancesSpec.vars false (#[.int .i64 0, .int .i64 0, .int .i64 0, .slice none 0 0] : Array Value).toList 8 = some ([.lit (.int .i64 0), .lit (.int .i64 0), .lit (.int .i64 0), .nil], [], places) :=
  ⟨[], by kernel_rfl⟩
theorem lifted (os : Os) (started : os.Started) (H : Type) (enc : TypeId × Value → H) (F : Stop.Interp) :
    ReturnsInHanded {} Try.checked os 3 .any ((OpenSpec.ofChange Rows.tacticsChancesSpec).preRow enc Try.prog Try.f3 Rows.tacticsChancesRow.domain false Rows.tacticsChancesRow.laid) (((OpenSpec.ofChange Rows.tacticsChancesSpec).at F).post enc Try.prog Try.f3 false true false false) := by
  obtain ⟨places, hx⟩ := reads os enc
  refine returnsInHanded_of_row (C := Try.checked) (s := OpenSpec.ofChange Rows.tacticsChancesSpec) own started (by kernel_rfl) Try.func3
    (witness_row_at (enc := enc) (C := Try.checked) false (laidWorld os) #[.int .i64 0, .int .i64 0, .int .i64 0, .slice none 0 0] rfl (by kernel_rfl) (by kernel_rfl) (by kernel_rfl)
      (OpenSpec.preRow_of_cond 8 hx (by kernel_rfl) (fun k hk => by cases hk) (by kernel_rfl) (laid_met os))) ?_
  intro W base args ds gs before hval hW _ _ _ hL _ _
  exact contract H enc W base args ds gs before hval hW
theorem said : Rows.TacticsChancesSaid :=
  OpenClaim.holds_of_cond 3 Try.f3 rfl rfl rfl rfl rfl rfl rfl ⟨rfl, rfl, rfl, rfl, rfl⟩ rfl rfl rfl rfl rfl (by kernel_rfl) Try.func3 (by kernel_rfl)
    (of_decide_eq_true (by kernel_rfl)) (by unfold Func.isWrapper; first | (rw [if_pos (by decide +kernel)]; kernel_rfl) | (rw [if_neg (by decide +kernel)]; exact ⟨rfl, rfl⟩))
    (fun os started H enc _ F => by rw [OpenClaim.pre_eq_preRow]; exact lifted os started H enc F)
end tacticsChances
end Go.Proofs.Ytnapkmimllipjaa
end
