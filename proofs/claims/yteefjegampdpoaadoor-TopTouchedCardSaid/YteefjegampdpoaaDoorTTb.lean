/-
  Part of a claim: the reckoner and contracts.
-/
import Derived.Test.YteefjegampdpoaaDoorTTa
set_option linter.unusedVariables false
set_option linter.unusedSimpArgs false
set_option maxRecDepth 100000
section
namespace Go.Proofs.YteefjegampdpoaaDoor.E2
open Go Go.RowKit
theorem rangesIn_seg : ∀ (x : Code) (i : Nat) (ps : Array Tmp) (a y : Code), (rangesIn x)[i]? = some (ps, a, y) → ∀ (j : Nat) z, (rangesIn y)[j]? = some z → (rangesIn x)[i + 1 + j]? = some z
  | .rangeFunc g qs u v, 0, ps, a, y, h, j, z, hz => by
    simp only [rangesIn, List.getElem?_cons_zero, Option.some.injEq, Prod.mk.injEq] at h
    obtain ⟨_, _, rfl⟩ := h
    simp only [rangesIn]
    rw [show 0 + 1 + j = j + 1 by omega, List.getElem?_cons_succ]
    exact hz
  | .rangeFunc g qs u v, i + 1, ps, a, y, h, j, z, hz => by
    simp only [rangesIn, List.getElem?_cons_succ] at h
    have := rangesIn_seg v i ps a y h j z hz
    simp only [rangesIn]
    rw [show i + 1 + 1 + j = (i + 1 + j) + 1 by omega, List.getElem?_cons_succ]
    exact this
  | .loop x, i, ps, a, y, h, j, z, hz => rangesIn_seg x i ps a y h j z hz
  | .block _ x, i, ps, a, y, h, j, z, hz => rangesIn_seg x i ps a y h j z hz
  | .scope x, i, ps, a, y, h, j, z, hz => rangesIn_seg x i ps a y h j z hz
  | .seq u v, i, ps, a, y, h, j, z, hz => by
    simp only [rangesIn] at h ⊢
    rcases Nat.lt_or_ge i (rangesIn u).length with hlt | hge
    · rw [List.getElem?_append_left hlt] at h
      have := rangesIn_seg u i ps a y h j z hz
      rw [List.getElem?_append_left (List.getElem?_eq_some_iff.1 this).1]
      exact this
    · rw [List.getElem?_append_right hge] at h
      have := rangesIn_seg v _ ps a y h j z hz
      rw [List.getElem?_append_right (by omega), show i + 1 + j - (rangesIn u).length = i - (rangesIn u).length + 1 + j by omega]
      exact this
  | .cond _ u v, i, ps, a, y, h, j, z, hz => by
    simp only [rangesIn] at h ⊢
    rcases Nat.lt_or_ge i (rangesIn u).length with hlt | hge
    · rw [List.getElem?_append_left hlt] at h
      have := rangesIn_seg u i ps a y h j z hz
      rw [List.getElem?_append_left (List.getElem?_eq_some_iff.1 this).1]
      exact this
    · rw [List.getElem?_append_right hge] at h
      have := rangesIn_seg v _ ps a y h j z hz
      rw [List.getElem?_append_right (by omega), show i + 1 + j - (rangesIn u).length = i - (rangesIn u).length + 1 + j by omega]
      exact this
  | .skip, i, ps, a, y, h, j, z, hz => by simp [rangesIn] at h
  | .label _, i, ps, a, y, h, j, z, hz => by simp [rangesIn] at h
  | .exit _, i, ps, a, y, h, j, z, hz => by simp [rangesIn] at h
  | .ret, i, ps, a, y, h, j, z, hz => by simp [rangesIn] at h
  | .goto _, i, ps, a, y, h, j, z, hz => by simp [rangesIn] at h
  | .refuse _, i, ps, a, y, h, j, z, hz => by simp [rangesIn] at h
  | .region _ _ _, i, ps, a, y, h, j, z, hz => by simp [rangesIn] at h
theorem rangeAt_seg {P : Program} {f i : Nat} : ∀ (j : Nat) z, (rangesIn (rangeAt P f i).2.2)[j]? = some z → rangeAt P f (i + 1 + j) = z := by
  intro j z hz
  unfold rangeAt at hz ⊢
  split at hz
  · rename_i fn hf
    split at hz
    · rename_i b hb
      cases hx : (rangesIn b)[i]? with
      | none =>
        rw [List.getD_eq_getElem?_getD, hx] at hz
        simp [rangesIn] at hz
      | some x =>
        rw [List.getD_eq_getElem?_getD, hx] at hz
        have := rangesIn_seg b i x.1 x.2.1 x.2.2 hx j z hz
        rw [List.getD_eq_getElem?_getD, this]
        rfl
    · simp [rangesIn] at hz
  · simp [rangesIn] at hz
section
variable {c : Cfg}
theorem evYld_sound (hm : c.P.follows .mixedOrders = true) (hfn : ∀ f, c.fns f = true → Callable c.P f) {cf : CF} (hcf : CallOk c cf) {b : Nat} {args : List V} {h : Heap} {lim : Nat} {ans : List Ans} {out : Out} (he : evYld c cf b args h lim ans = some out) (hc : ∀ p ∈ out.cons, p) (hL : c.L ≤ lim) (hl : lim ≤ h.length) {ρ : Ren} {w : World} (RH : RelH c ρ h w) (hu : unders h.length args = true) :
    ∃ r, h[b]? = some (some (.rcd r)) ∧ args.length = (rangeAt c.P r.f r.i).1.size ∧ ∀ fn u D, w.heap[(ρ.blk b).n]? = some (.loop (r.loop c.P ρ fn u D)) →
      RoundIn Fence.wide 0 c.P (ρ.blk b).n fn (((rangeAt c.P r.f r.i).1.zip (concs ρ args).toArray).foldl (fun tmps (t, a) => tmps.setIfInBounds t a) (concs ⟨ρ.blk, u⟩ r.t).toArray) (rangeAt c.P r.f r.i).2.1 (rangeAt c.P r.f r.i).2.2 w (Post c lim ρ h w out.v out.h) := by
  unfold evYld at he
  split at he
  · rename_i r hb
    have hbl := lt_len hb
    split at he
    · rename_i hst
      split at he
      · rename_i hh
        obtain ⟨h1, h2, h3⟩ := hh
        split at he
        · rename_i o1 ho1
          split at he
          · rename_i r1 he1 hr1
            split at he
            · rename_i hst1
              split at he
              · rename_i o2 ho2
                split at he
                · rename_i r2 hr2
                  have fin : ∃ s bv, out = ⟨.raw (.bool bv), o2.h.set b (some (.rcd { r2 with st := s })), o2.ans, o1.cons ++ o2.cons⟩ ∧ ((o2.e = .normal ∧ s = .ready ∧ bv = true) ∨ (o2.e ≠ .normal ∧ s = .done o2.e ∧ bv = false)) := by
                    split at he
                    · rename_i hn
                      simp only [Option.some.injEq] at he
                      exact ⟨_, _, he.symm, .inl ⟨hn, rfl, rfl⟩⟩
                    · rename_i hn
                      simp only [Option.some.injEq] at he
                      exact ⟨_, _, he.symm, .inr ⟨fun e => hn e, rfl, rfl⟩⟩
                  obtain ⟨s, bv, rfl, hcase⟩ := fin
                  refine ⟨r, hb, h2, fun fn u D hw => ?_⟩
                  have hsco := RH.sco b _ hb
                  simp only [Blk.under] at hsco
                  generalize hps : (rangeAt c.P r.f r.i).1 = ps at *
                  -- the round's slots
                  have hT0 : (ps.zip (concs ρ args).toArray).foldl (fun tmps (x : Tmp × Value) => tmps.setIfInBounds x.1 x.2) (concs ⟨ρ.blk, u⟩ r.t).toArray = (concs ⟨ρ.blk, u⟩ ((ps.toList.zip args).foldl (fun t p => t.set p.1 p.2) r.t)).toArray ∧ ((ps.toList.zip args).foldl (fun t p => t.set p.1 p.2) r.t).all (·.slotOk h.length) = true := by
                    rw [← Array.foldl_toList, Array.toList_zip]
                    have gen : ∀ (l : List Tmp) (zl : List V) (t : List V), unders h.length zl = true → t.all (·.slotOk h.length) = true →
                        (l.zip (concs ρ zl)).foldl (fun tmps (x : Tmp × Value) => tmps.setIfInBounds x.1 x.2) (concs ⟨ρ.blk, u⟩ t).toArray = (concs ⟨ρ.blk, u⟩ ((l.zip zl).foldl (fun t p => t.set p.1 p.2) t)).toArray ∧ ((l.zip zl).foldl (fun t p => t.set p.1 p.2) t).all (·.slotOk h.length) = true := by
                      intro l
                      induction l with
                      | nil => intro zl t _ ht; exact ⟨rfl, ht⟩
                      | cons x l ih =>
                        intro zl t ha ht
                        cases zl with
                        | nil => exact ⟨by simp [concs], by simpa using ht⟩
                        | cons v zl =>
                          simp only [unders, Bool.and_eq_true] at ha
                          have ht' : (t.set x v).all (·.slotOk h.length) = true := List.all_eq_true.2 fun y hy => by
                            rcases List.mem_or_eq_of_mem_set hy with h5 | rfl
                            · exact List.all_eq_true.1 ht y h5
                            · exact V.slot_of_under _ ha.1
                          obtain ⟨i1, i2⟩ := ih zl (t.set x v) ha.2 ht'
                          refine ⟨?_, i2⟩
                          simp only [concs, List.zip_cons_cons, List.foldl_cons]
                          rw [← i1]
                          congr 1
                          rw [concs_set]
                          simp only [List.setIfInBounds_toArray]
                          rw [V.conc_agree (ρ := ρ) (ρ' := ⟨ρ.blk, u⟩) (fun _ _ => rfl) v ha.1]
                    exact gen ps.toList args r.t hu hsco
                  have RHu : RelH c ⟨ρ.blk, u⟩ h w := relH_unk RH u
                  refine roundIn_of_wpIn (F := Fence.wide) trivial ?_
                  have run1 := evCode_sound hm hcf hfn hL (rnd := some b) _ _ _ _ _ _ ho1 (fun p hp => hc p (List.mem_append_left _ hp)) hl (fun b' e => by cases e; exact hbl) (fun j x hx => by
                    rw [List.isEmpty_iff] at h3
                    rw [h3] at hx
                    simp at hx)
                  have hF : Fence.wide.inRound (ρ.blk b).n = FW (rndOf ⟨ρ.blk, u⟩ (some b)) := rfl
                  rw [hF]
                  have RT0 : RelT ⟨ρ.blk, u⟩ h.length ((ps.toList.zip args).foldl (fun t p => t.set p.1 p.2) r.t) { tmps := (ps.zip (concs ρ args).toArray).foldl (fun tmps (x : Tmp × Value) => tmps.setIfInBounds x.1 x.2) (concs ⟨ρ.blk, u⟩ r.t).toArray, defers := [] } :=
                    ⟨hT0.1, fun x hx => List.all_eq_true.1 hT0.2 x hx⟩
                  refine run1.go RT0 RHu fun ρ1 a1 w1 ms1 d1 M1 RT1 RH1 F1 => ?_
                  rw [he1]
                  have hb1 : ρ1.blk b = ρ.blk b := F1.ren b hbl
                  obtain ⟨hn1, fn1, u1, D1, g1⟩ := RH1.cell b _ hr1
                  have hbeg := run_beginRound (P := c.P) g1 (by simp only [Rec.loop, hst1]; rfl)
                  obtain ⟨p1, p2, p3⟩ := putObj_rel (lim := lim) RH1 (X := some (.rcd { r1 with st := .busy })) (o := .loop { r1.loop c.P ρ1 fn1 u1 D1 with state := .busy }) hr1 (by omega) h1 (fun B' e => by
                    cases e
                    have hsc1 : (Blk.rcd r1).under o1.h.length = true := RH1.sco b _ hr1
                    refine ⟨hsc1, fun hw' => ⟨hn1, fn1, u1, D1, hw'.trans ?_⟩⟩
                    simp only [Rec.loop, hst1, RSt.state, RSt.pend])
                  rw [hb1] at hbeg p1 p2 p3
                  refine ⟨_, hbeg, ?_⟩
                  generalize (w1.putObj (ρ.blk b).n (.loop { r1.loop c.P ρ1 fn1 u1 D1 with state := .busy })) = w2 at p1 p2 p3
                  have F12 := F1.trans (p2.fewer F1.len hl)
                  have run2 := evCode_sound hm hcf hfn hL (rnd := some b) _ _ _ _ _ _ ho2 (fun p hp => hc p (List.mem_append_right _ hp)) (by rw [List.length_set]; exact Nat.le_trans hl F1.len) (fun b' e => by cases e; rw [List.length_set]; exact Nat.lt_of_lt_of_le hbl F1.len) (fun j x hx => rangeAt_seg j x hx)
                  have RT1' : RelT ρ1 (o1.h.set b (some (.rcd { r1 with st := .busy }))).length o1.t a1 := by rw [List.length_set]; exact RT1
                  have hF' : FW (rndOf ⟨ρ.blk, u⟩ (some b)) = FW (rndOf ρ1 (some b)) := by simp only [rndOf, Option.map_some, hb1]
                  rw [hF']
                  refine run2.go RT1' p1 fun ρ2 a2 w3 ms2 d2 M2 RT2 RH2 F2 => ?_
                  have hb2 : ρ2.blk b = ρ.blk b := by rw [F2.ren b (by rw [List.length_set]; exact Nat.lt_of_lt_of_le hbl F1.len), hb1]
                  obtain ⟨hn2, fn2, u2, D2, g2⟩ := RH2.cell b _ hr2
                  rw [hb2] at g2
                  have close : ∀ (j : Option Code) , (s.state = (if j.isNone then .ready else .done)) → s.pend = j → bv = j.isNone → ∃ v w', (Instr.endRound (ρ.blk b).n j).run c.P w3 = .ok v w' ∧ Post c lim ρ h w (.raw (.bool bv)) (o2.h.set b (some (.rcd { r2 with st := s }))) (.returned v) w' := fun j j1 j2 j3 => by
                    refine ⟨_, _, run_endRound j g2, ?_⟩
                    obtain ⟨q1, q2, q3⟩ := putObj_rel (lim := lim) RH2 (X := some (.rcd { r2 with st := s })) (o := .loop { r2.loop c.P ρ2 fn2 u2 D2 with state := if j.isNone then .ready else .done, pending := j }) hr2 (by omega) h1 (fun B' e => by
                      cases e
                      have hsc2 : (Blk.rcd r2).under o2.h.length = true := RH2.sco b _ hr2
                      refine ⟨hsc2, fun hw' => ⟨hn2, fn2, u2, D2, hw'.trans ?_⟩⟩
                      simp only [Rec.loop, j1, j2])
                    rw [hb2] at q1 q2
                    have F23 := (F2.fewer (m := h.length) (by rw [List.length_set]; exact F1.len) hl).trans (q2.fewer (Nat.le_trans F1.len (by have := F2.len; rw [List.length_set] at this; exact this)) hl)
                    have Fall := F12.trans F23
                    exact ⟨⟨ρ2.blk, ρ.unk⟩, rfl, by simp only [V.conc, j3], relH_unk q1 _, (Fall.unk ρ.unk).unk0, rfl⟩
                  rcases hcase with ⟨e1, rfl, rfl⟩ | ⟨e1, rfl, rfl⟩
                  · rw [e1]
                    exact close none rfl rfl rfl
                  · cases hoe : o2.e with
                    | normal => exact absurd hoe e1
                    | exit id =>
                      rw [hoe] at close
                      exact close (some (.exit id)) rfl rfl rfl
                    | ret =>
                      rw [hoe] at close
                      exact close (some .ret) rfl rfl rfl
                · cases he
              · cases he
            · cases he
          · cases he
        · cases he
      · cases he
    · cases he
  · cases he
theorem leaves_marks {fn : Func} {tmps : Array Value} {R : Ending → World → Prop} {lim : Nat} {ρ0 ρ : Ren} {h0 h : Heap} {w0 : World} {n : Nat} : ∀ (Ds : List Nat) (w : World), Ds.Nodup → (∀ D ∈ Ds, w0.heap.size ≤ D ∧ w.heap[D]? = some (.deferred (some []))) → RelH c ρ h w → Fr lim n ρ0 h0 w0 ρ h w →
    (∀ w', RelH c ρ h w' → Fr lim n ρ0 h0 w0 ρ h w' → ∃ v, (results fn tmps).run c.P w' = .ok v w' ∧ R (.returned v) w') → LeavesInM Fence.wide 0 c.P fn tmps R (Ds.map markOf) .returning w
  | [], w, _, _, RH, F, hR => hR w RH F
  | D :: Ds, w, hnd, hD, RH, F, hR => by
    rw [List.nodup_cons] at hnd
    obtain ⟨h1, h2⟩ := hD D List.mem_cons_self
    refine ⟨by simp, .inl ⟨D, w.putObj D (.deferred none), rfl, run_takeDeferred h2, ?_⟩⟩
    have hne : ∀ i, lv ρ h i → (ρ.blk i).n ≠ D := fun i ⟨B, k1, k2⟩ e => (RH.cell i B k1).notDfr k2 (by rw [e]; exact h2)
    refine leaves_marks Ds _ hnd.2 (fun E hE => ?_) ?_ ?_ hR
    · obtain ⟨k1, k2⟩ := hD E (List.mem_cons_of_mem _ hE)
      exact ⟨k1, by rw [World.putObj_heap_other (fun e => hnd.1 (by rw [← e]; exact hE)), k2]⟩
    · exact ⟨fun i B hi => (RH.cell i B hi).move (RH.sco i B hi) (fun _ _ => rfl) fun hn => World.putObj_heap_other (hne i ⟨B, hi, hn⟩), RH.inj, RH.sco, RH.glob, RH.big, RH.base⟩
    · exact ⟨F.os, F.tape, F.output, by simpa using F.size, fun k hk hn => by rw [World.putObj_heap_other (by omega)]; exact F.blk k hk hn, F.ren, F.len, F.fresh, F.dead⟩
theorem evYlds_sound (hm : c.P.follows .mixedOrders = true) (hfn : ∀ f, c.fns f = true → Callable c.P f) {call : FuncId → List V → Heap → Nat → List Ans → Option Out}
    (hcall : ∀ f args h lim ans out, call f args h lim ans = some out → (∀ p ∈ out.cons, p) → c.L ≤ lim → lim ≤ h.length → ∀ ρ w, RelH c ρ h w → unders h.length args = true → Calls c.P f (concs ρ args).toArray w (Post c lim ρ h w out.v out.h)) : ∀ m, CallOk c ⟨call, evYlds c call m⟩
  | 0 => ⟨hcall, fun b args h lim ans out he => by cases he⟩
  | m + 1 => ⟨hcall, fun b args h lim ans out he hc hL hl ρ w RH hu => evYld_sound hm hfn (evYlds_sound hm hfn hcall m) he hc hL hl RH hu⟩
theorem evFunc_sound (hm : c.P.follows .mixedOrders = true) (hfn : ∀ f, c.fns f = true → Callable c.P f) : ∀ n f args h lim ans out, evFunc c n f args h lim ans = some out → (∀ p ∈ out.cons, p) → c.L ≤ lim → lim ≤ h.length → ∀ ρ w, RelH c ρ h w → unders h.length args = true → Calls c.P f (concs ρ args).toArray w (Post c lim ρ h w out.v out.h) := by
  intro n
  induction n with
  | zero => intro f args h lim ans out he; simp [evFunc] at he
  | succ n ih =>
    intro f args h lim ans out he hc hL hl ρ w RH hu
    simp only [evFunc] at he
    split at he
    · simp only [Option.some.injEq] at he
      subst he
      exact (hc _ List.mem_cons_self) _ _ hL hl ρ w RH hu
    · simp only [Option.some.injEq] at he
      subst he
      exact (hc _ List.mem_cons_self) ρ w RH hu
    · split at he
      · cases he
      · rename_i ans1 _
        split at he
        · cases he
        · rename_i fn hf
          split at he
          · cases he
          · rename_i code hb
            split at he
            · cases he
            · rename_i r hr
              have fin : ∀ {vs : List V}, (∀ i, r.e ≠ .exit i) → resultsV c r.t r.h fn.results.toList = some vs → out = ⟨oneOf vs, r.h, r.ans, r.cons⟩ → Calls c.P f (concs ρ args).toArray w (Post c lim ρ h w out.v out.h) := by
                intro vs hne hvs ho
                subst ho
                have hrun := evCode_sound hm (evYlds_sound hm hfn ih 3) hfn hL (rnd := none) code 0 _ _ _ _ hr hc hl (fun b e => by cases e) (fun j x hx => by
                  unfold rangeAt
                  rw [hf]
                  simp only [hb]
                  rw [Nat.zero_add, List.getD_eq_getElem?_getD, hx]
                  rfl)
                have htm : (concs ρ args).toArray ++ Array.replicate (fn.ntmps - (concs ρ args).toArray.size) undef = (concs ρ (args ++ List.replicate (fn.ntmps - args.length) (.raw undef))).toArray := by
                  apply Array.toList_inj.1
                  simp [concs_map, V.conc]
                refine (callsIn_wide (n := 0)).1 (callsIn_of_wp_marks hf hb trivial ?_)
                rw [htm]
                refine hrun.go (ρ := ρ) ⟨rfl, fun x hx => ?_⟩ RH fun ρ1 a1 w1 ms d1 M1 RT1 RH1 F1 => ?_
                · rcases List.mem_append.1 hx with h1 | h1
                  · exact V.slot_of_under _ ((unders_iff _ _).1 hu x h1)
                  · rw [List.eq_of_mem_replicate h1]; rfl
                · obtain ⟨Ds, rfl, m2, m3⟩ := M1
                  simp only [List.append_nil] at d1
                  have out1 : LeavesInM Fence.wide 0 c.P fn a1.tmps (Post c lim ρ h w (oneOf vs) r.h) (Ds.map markOf) .returning w1 := by
                    refine leaves_marks Ds w1 m2 m3 RH1 F1 fun w' RH' F' => ?_
                    obtain ⟨h1, h2⟩ := results_ok RH' RT1 hvs
                    exact ⟨_, h1, ⟨ρ1.blk, ρ.unk⟩, rfl, by rw [V.conc_agree (ρ := ρ1) (ρ' := ⟨ρ1.blk, ρ.unk⟩) (fun _ _ => rfl) _ h2], relH_unk RH' _, F'.unk _, h2⟩
                  cases he : r.e with
                  | exit i => exact absurd he (hne i)
                  | normal => show LeavesInM _ _ _ _ _ _ a1.defers _ _; rw [d1]; exact out1
                  | ret => show LeavesInM _ _ _ _ _ _ a1.defers _ _; rw [d1]; exact out1
              split at he
              · cases he
              · rename_i hne
                split at he
                · cases he
                · rename_i vs hvs
                  simp only [Option.some.injEq] at he
                  exact fin hne hvs he.symm
def Paid : List Prop → Prop
  | [] => True
  | p :: l => p ∧ Paid l
theorem Paid.all : ∀ {l : List Prop}, Paid l → ∀ p ∈ l, p
  | [], _, p, hp => by cases hp
  | q :: l, h, p, hp => by
    rcases List.mem_cons.1 hp with rfl | hp
    · exact h.1
    · exact Paid.all h.2 p hp
theorem meets_of (hm : c.P.follows .mixedOrders = true) (hfn : ∀ f, c.fns f = true → Callable c.P f) {lim : Nat} (hL : c.L ≤ lim) {n : Nat} {f : FuncId} {args : List V} {h h' : Heap} (hl : lim ≤ h.length) {ans ans' : List Ans} {v : V} {cons : List Prop}
    (he : evFunc c n f args h lim ans = some ⟨v, h', ans', cons⟩) (hc : Paid cons) : Meets c lim f args h v h' :=
  fun ρ w RH hu => evFunc_sound hm hfn n f args h lim ans _ he (fun p hp => hc.all p hp) hL hl ρ w RH hu
end
end Go.Proofs.YteefjegampdpoaaDoor.E2
end
section
namespace Go.Proofs.YteefjegampdpoaaDoor.E2
open Go Go.RowKit
mutual
def V.mv (τ : Nat → Nat) (nl : Nat → Bool) : V → V
  | .raw v => .raw v
  | .any k => .any k
  | .ptr b o => .ptr (τ b) o
  | .slo b l => match nl b with
    | true => .raw (.slice none 0 0)
    | false => .slo (τ b) l
  | .yld b => .yld (τ b)
  | .fn f x y => .fn f (mvs τ nl x) (mvs τ nl y)
  | .agg l => .agg (mvs τ nl l)
  | .tup l => .tup (mvs τ nl l)
  | .lit b => .lit b
def mvs (τ : Nat → Nat) (nl : Nat → Bool) : List V → List V
  | [] => []
  | x :: l => x.mv τ nl :: mvs τ nl l
end
mutual
def V.nilOk (nl : Nat → Bool) : V → Bool
  | .raw _ => true
  | .any _ => true
  | .ptr b _ => !nl b
  | .slo b l => match nl b with
    | true => l == 0
    | false => true
  | .yld b => !nl b
  | .fn _ x y => nilOks nl x && nilOks nl y
  | .agg l => nilOks nl l
  | .tup l => nilOks nl l
  | .lit _ => true
def nilOks (nl : Nat → Bool) : List V → Bool
  | [] => true
  | x :: l => x.nilOk nl && nilOks nl l
end
def Moved (τ : Nat → Nat) (nl : Nat → Bool) (ρ ρ' : Ren) : Prop := ∀ i, (nl i = true → (ρ'.blk i).nil = true) ∧ (nl i = false → ρ'.blk i = ρ.blk (τ i))
mutual
theorem V.mv_conc {τ : Nat → Nat} {nl : Nat → Bool} {ρ ρ' : Ren} (h : Moved τ nl ρ ρ') (hu : ρ'.unk = ρ.unk) : ∀ x : V, x.nilOk nl = true → x.conc ρ' = (x.mv τ nl).conc ρ
  | .raw v, _ => rfl
  | .any k, _ => by simp only [V.conc, V.mv, hu]
  | .ptr b o, hx => by
    simp only [V.nilOk, Bool.not_eq_true'] at hx
    simp only [V.conc, V.mv, (h b).2 hx]
  | .slo b l, hx => by
    simp only [V.nilOk] at hx
    simp only [V.mv]
    cases hb : nl b with
    | true =>
      rw [hb] at hx
      have : l = 0 := by simpa using hx
      subst this
      simp only [V.conc, slcOf, (h b).1 hb, and_self, if_true]
    | false => simp only [V.conc, (h b).2 hb]
  | .yld b, hx => by
    simp only [V.nilOk, Bool.not_eq_true'] at hx
    simp only [V.conc, V.mv, (h b).2 hx]
  | .fn f x y, hx => by
    simp only [V.nilOk, Bool.and_eq_true] at hx
    simp only [V.conc, V.mv, mvs_conc h hu x hx.1, mvs_conc h hu y hx.2]
  | .agg l, hx => by simp only [V.nilOk] at hx; simp only [V.conc, V.mv, mvs_conc h hu l hx]
  | .tup l, hx => by simp only [V.nilOk] at hx; simp only [V.conc, V.mv, mvs_conc h hu l hx]
  | .lit b, _ => rfl
theorem mvs_conc {τ : Nat → Nat} {nl : Nat → Bool} {ρ ρ' : Ren} (h : Moved τ nl ρ ρ') (hu : ρ'.unk = ρ.unk) : ∀ l : List V, nilOks nl l = true → concs ρ' l = concs ρ (mvs τ nl l)
  | [], _ => rfl
  | x :: l, hx => by
    simp only [nilOks, Bool.and_eq_true] at hx
    simp only [concs, mvs, V.mv_conc h hu x hx.1, mvs_conc h hu l hx.2]
end
theorem mvs_length (τ : Nat → Nat) (nl : Nat → Bool) : ∀ l : List V, (mvs τ nl l).length = l.length
  | [] => rfl
  | x :: l => by simp [mvs, mvs_length τ nl l]
theorem mvs_raw (τ : Nat → Nat) (nl : Nat → Bool) : ∀ l : List V, l.all isRawV = true → mvs τ nl l = l
  | [], _ => rfl
  | x :: l, h => by
    simp only [List.all_cons, Bool.and_eq_true] at h
    simp only [mvs, mvs_raw τ nl l h.2]
    cases x <;> first | rfl | simp [isRawV] at h
theorem nilOks_raw (nl : Nat → Bool) : ∀ l : List V, l.all isRawV = true → nilOks nl l = true
  | [], _ => rfl
  | x :: l, h => by
    simp only [List.all_cons, Bool.and_eq_true] at h
    simp only [nilOks, nilOks_raw nl l h.2, Bool.and_true]
    cases x <;> first | rfl | simp [isRawV] at h
theorem unders_raws (n : Nat) : ∀ l : List V, l.all isRawV = true → unders n l = true
  | [], _ => rfl
  | x :: l, h => by
    simp only [List.all_cons, Bool.and_eq_true] at h
    simp only [unders, unders_raws n l h.2, Bool.and_true]
    cases x <;> first | rfl | simp [isRawV] at h
def Blk.mv (τ : Nat → Nat) (nl : Nat → Bool) : Blk → Blk
  | .cells cs ty own => .cells (mvs τ nl cs) ty own
  | .rcd r => .rcd { r with t := mvs τ nl r.t }
def Blk.nilOk (nl : Nat → Bool) : Blk → Bool
  | .cells cs _ _ => nilOks nl cs
  | .rcd r => nilOks nl r.t
def Blk.le (B B' : Blk) : Prop := B = B' ∨ ∃ cs ty own, B = .cells cs ty .ro ∧ B' = .cells cs ty own
theorem BlkOk.le {P : Program} {ρ : Ren} {l : Loc} {w : World} {B B' : Blk} (hl : B.le B') (h : BlkOk P ρ l w B') : BlkOk P ρ l w B := by
  rcases hl with rfl | ⟨cs, ty, own, rfl, rfl⟩
  · exact h
  · refine ⟨h.nil, fun hn => ?_, fun sz hsz => (by cases hsz)⟩
    obtain ⟨fr, h6, _⟩ := h.row hn
    exact ⟨fr, h6, fun hro => absurd rfl hro⟩
theorem BlkOk.mv {P : Program} {τ : Nat → Nat} {nl : Nat → Bool} {ρ ρ' : Ren} (h : Moved τ nl ρ ρ') {l : Loc} {w : World} {B : Blk} {n : Nat} (hun : B.under n = true) (hn : B.nilOk nl = true) : BlkOk P ρ l w (B.mv τ nl) ↔ BlkOk P ρ' l w B := by
  cases B with
  | cells cs ty own =>
    have e : concs ρ' cs = concs ρ (mvs τ nl cs) := by
      have := mvs_conc (ρ := ρ) (ρ' := ⟨ρ'.blk, ρ.unk⟩) h rfl cs hn
      rw [← this]
      exact concs_agree (ρ := ⟨ρ'.blk, ρ.unk⟩) (ρ' := ρ') (n := n) (fun _ _ => rfl) cs hun
    constructor
    · intro hb
      refine ⟨fun hl => ?_, fun hl => ?_, fun sz hs => ?_⟩
      · have := hb.nil hl
        exact List.eq_nil_of_length_eq_zero (by rw [← mvs_length τ nl cs, this]; rfl)
      · obtain ⟨fr, h1, h2⟩ := hb.row hl
        exact ⟨fr, by rw [e]; exact h1, h2⟩
      · obtain ⟨h1, h2⟩ := hb.room sz hs
        exact ⟨h1, fun hl => by rw [← mvs_length τ nl cs]; exact h2 hl⟩
    · intro hb
      refine ⟨fun hl => ?_, fun hl => ?_, fun sz hs => ?_⟩
      · rw [hb.nil hl]; rfl
      · obtain ⟨fr, h1, h2⟩ := hb.row hl
        exact ⟨fr, by rw [← e]; exact h1, h2⟩
      · obtain ⟨h1, h2⟩ := hb.room sz hs
        exact ⟨h1, fun hl => by rw [mvs_length]; exact h2 hl⟩
  | rcd r =>
    have e : ∀ u, concs ⟨ρ'.blk, u⟩ r.t = concs ⟨ρ.blk, u⟩ (mvs τ nl r.t) := fun u => mvs_conc (ρ := ⟨ρ.blk, u⟩) (ρ' := ⟨ρ'.blk, u⟩) h rfl r.t hn
    constructor
    · rintro ⟨h1, fn, u, D, h2⟩
      refine ⟨h1, fn, u, D, ?_⟩
      rw [h2]
      simp only [Rec.loop, e u]
    · rintro ⟨h1, fn, u, D, h2⟩
      refine ⟨h1, fn, u, D, ?_⟩
      rw [h2]
      simp only [Rec.loop, e u]
def anyOwn : Nat → List V → Bool
  | _, [] => true
  | i, .any j :: l => decide (j = i) && anyOwn (i + 1) l
  | i, _ :: l => anyOwn (i + 1) l
theorem anyOwn_get : ∀ (l : List V) (k i j : Nat), anyOwn k l = true → l[i]? = some (.any j) → j = k + i
  | [], k, i, j, h, hg => by simp at hg
  | v :: l, k, 0, j, h, hg => by
    simp only [List.getElem?_cons_zero, Option.some.injEq] at hg
    subst hg
    simp only [anyOwn, Bool.and_eq_true, decide_eq_true_eq] at h
    omega
  | v :: l, k, i + 1, j, h, hg => by
    simp only [List.getElem?_cons_succ] at hg
    have h' : anyOwn (k + 1) l = true := by
      cases v with
      | any q => simp only [anyOwn, Bool.and_eq_true] at h; exact h.2
      | _ => simpa only [anyOwn] using h
    have := anyOwn_get l (k + 1) i j h' hg
    omega
def hideBy : List V → List V → List V
  | .any k :: l, _ :: m => .any k :: hideBy l m
  | _ :: l, v :: m => v :: hideBy l m
  | [], m => m
  | _, [] => []
theorem hideBy_get : ∀ (l m : List V), l.length = m.length → ∀ i : Nat, (hideBy l m)[i]? = (match (l[i]? : Option V) with
    | some (V.any k) => some (V.any k)
    | _ => m[i]?)
  | [], [], _, i => by simp [hideBy]
  | [], y :: m, h, i => by simp at h
  | x :: l, [], h, i => by simp at h
  | x :: l, y :: m, h, 0 => by cases x <;> simp [hideBy]
  | x :: l, y :: m, h, i + 1 => by
    have := hideBy_get l m (by simpa using h) i
    cases x <;> simpa [hideBy] using this
def tauOf (n0 : Nat) (ks : List (Option Nat)) (j : Nat) : Nat := if j < n0 then j else (ks[j - n0]?).join.getD 0
def nlOf (n0 : Nat) (ks : List (Option Nat)) (j : Nat) : Bool := decide (n0 ≤ j) && (match ks[j - n0]? with
  | some none => true
  | _ => false)
def keysOk (lim n0 m : Nat) (H : Heap) : List (Option Nat) → Bool
  | [] => true
  | none :: l => keysOk lim n0 m H l
  | some b :: l => decide (lim ≤ b) && decide (b < m) && (!decide (b < n0) || match H[b]? with
      | some (some _) => false
      | _ => true) && !l.contains (some b) && keysOk lim n0 m H l
def nilB : Blk → Prop
  | .cells [] _ (.row _) => True
  | _ => False
def entries (τ : Nat → Nat) (nl : Nat → Bool) (h : Heap) (m : Nat) : Nat → Heap → List Prop
  | _, [] => []
  | j, none :: l => entries τ nl h m (j + 1) l
  | j, some B :: l => (match nl j with
      | true => nilB B
      | false => h[τ j]? = some (some (B.mv τ nl))) :: (B.under m = true) :: (B.nilOk nl = true) :: entries τ nl h m (j + 1) l
theorem entries_get {τ : Nat → Nat} {nl : Nat → Bool} {h : Heap} {m : Nat} : ∀ (l : Heap) (j : Nat), Paid (entries τ nl h m j l) → ∀ i B, l[i]? = some (some B) → (match nl (j + i) with
      | true => nilB B
      | false => h[τ (j + i)]? = some (some (B.mv τ nl))) ∧ B.under m = true ∧ B.nilOk nl = true
  | [], j, hp, i, B, hB => by simp at hB
  | none :: l, j, hp, 0, B, hB => by simp at hB
  | none :: l, j, hp, i + 1, B, hB => by
    have := entries_get l (j + 1) hp i B (by simpa using hB)
    rwa [show j + 1 + i = j + (i + 1) by omega] at this
  | some C :: l, j, hp, 0, B, hB => by
    simp only [List.getElem?_cons_zero, Option.some.injEq] at hB
    subst hB
    exact ⟨hp.1, hp.2.1, hp.2.2.1⟩
  | some C :: l, j, hp, i + 1, B, hB => by
    have := entries_get l (j + 1) hp.2.2.2 i B (by simpa using hB)
    rwa [show j + 1 + i = j + (i + 1) by omega] at this
theorem keysOk_get {lim n0 m : Nat} {H : Heap} : ∀ (ks : List (Option Nat)), keysOk lim n0 m H ks = true → (∀ (i b : Nat), ks[i]? = some (some b) → lim ≤ b ∧ b < m ∧ (b < n0 → ∀ B, H[b]? ≠ some (some B))) ∧ ∀ (i j b : Nat), ks[i]? = some (some b) → ks[j]? = some (some b) → i = j
  | [], _ => ⟨fun i b h => by simp at h, fun i j b h => by simp at h⟩
  | none :: l, h => by
    obtain ⟨h1, h2⟩ := keysOk_get l h
    refine ⟨fun i b hi => ?_, fun i j b hi hj => ?_⟩
    · cases i with
      | zero => simp at hi
      | succ i => exact h1 i b (by simpa using hi)
    · cases i with
      | zero => simp at hi
      | succ i => cases j with
        | zero => simp at hj
        | succ j => rw [h2 i j b (by simpa using hi) (by simpa using hj)]
  | some x :: l, h => by
    simp only [keysOk, Bool.and_eq_true, decide_eq_true_eq, Bool.or_eq_true, Bool.not_eq_true', decide_eq_false_iff_not] at h
    obtain ⟨⟨⟨⟨k1, k2⟩, k3⟩, k4⟩, k5⟩ := h
    obtain ⟨h1, h2⟩ := keysOk_get l k5
    have no : ∀ i : Nat, l[i]? ≠ some (some x) := fun i hi => by
      have := List.mem_of_getElem? hi
      rw [← List.contains_iff_mem, k4] at this
      cases this
    refine ⟨fun i b hi => ?_, fun i j b hi hj => ?_⟩
    · cases i with
      | zero =>
        simp only [List.getElem?_cons_zero, Option.some.injEq] at hi
        subst hi
        refine ⟨k1, k2, fun hlt B hB => ?_⟩
        rcases k3 with k3 | k3
        · exact k3 hlt
        · rw [hB] at k3; cases k3
      | succ i => exact h1 i b (by simpa using hi)
    · cases i with
      | zero =>
        simp only [List.getElem?_cons_zero, Option.some.injEq] at hi
        cases j with
        | zero => rfl
        | succ j =>
          subst hi
          exact absurd (by simpa using hj) (no j)
      | succ i => cases j with
        | zero =>
          simp only [List.getElem?_cons_zero, Option.some.injEq] at hj
          subst hj
          exact absurd (by simpa using hi) (no i)
        | succ j => rw [h2 i j b (by simpa using hi) (by simpa using hj)]
section
variable {c : Cfg} {lim n0 : Nat}
theorem reshape (hG : ∀ p ∈ c.G, p.2 < c.L) (ks : List (Option Nat)) {t T : List V} {h H : Heap} (hlen : n0 ≤ h.length) (hH : H.length = n0 + ks.length) (hl : lim ≤ n0) (hL : c.L ≤ lim)
    (hT : mvs (tauOf n0 ks) (nlOf n0 ks) T = hideBy T t) (hTl : T.length = t.length) (hTo : (anyOwn 0 T && T.all (·.slotOk H.length) && nilOks (nlOf n0 ks) T) = true) (hB : ∀ i, i < c.L → H[i]? = h[i]?) (hk : keysOk lim n0 h.length H ks = true) (hE : Paid (entries (tauOf n0 ks) (nlOf n0 ks) h H.length 0 H))
    {ρ : Ren} {a : Act} {w : World} (RT : RelT ρ h.length t a) (RH : RelH c ρ h w) : ∃ ρ', RelT ρ' H.length T a ∧ RelH c ρ' H w ∧ Fr lim n0 ρ h w ρ' H w := by
  generalize hτ : tauOf n0 ks = τ at *
  generalize hn : nlOf n0 ks = nl at *
  simp only [Bool.and_eq_true] at hTo
  obtain ⟨⟨t1, t2⟩, t3⟩ := hTo
  obtain ⟨k1, k2⟩ := keysOk_get ks hk
  have low : ∀ i, i < n0 → τ i = i ∧ nl i = false := fun i hi => by
    rw [← hτ, ← hn]
    refine ⟨by simp [tauOf, hi], ?_⟩
    simp only [nlOf, Bool.and_eq_false_iff, decide_eq_false_iff_not]
    exact .inl (by omega)
  have ent : ∀ i B, H[i]? = some (some B) → (match nl i with
      | true => nilB B
      | false => h[τ i]? = some (some (B.mv τ nl))) ∧ B.under H.length = true ∧ B.nilOk nl = true := fun i B hB => by
    have := entries_get H 0 hE i B hB
    rwa [Nat.zero_add] at this
  generalize hρ : (⟨fun j => if nl j = true then ⟨0, [], [], 0, true⟩ else ρ.blk (τ j), fun s => a.tmps.getD s undef⟩ : Ren) = ρ'
  have mv : Moved τ nl ρ ρ' := fun i => ⟨fun h => by rw [← hρ]; simp [h], fun h => by rw [← hρ]; simp [h]⟩
  -- where a live name comes from
  have from_ : ∀ i B, H[i]? = some (some B) → (ρ'.blk i).nil = false → ρ'.blk i = ρ.blk (τ i) ∧ h[τ i]? = some (some (B.mv τ nl)) := fun i B hB hnil => by
    cases hni : nl i with
    | true => rw [(mv i).1 hni] at hnil; cases hnil
    | false =>
      have := (ent i B hB).1
      rw [hni] at this
      exact ⟨(mv i).2 hni, this⟩
  have wr : ∀ B : Blk, (B.mv τ nl).wr = B.wr := fun B => by
    cases B with
    | cells cs ty own => cases own <;> rfl
    | rcd r => rfl
  have flw : ∀ i, lw ρ' H i → lw ρ h (τ i) ∧ ρ'.blk i = ρ.blk (τ i) := fun i ⟨B, b1, b2, b3⟩ => by
    obtain ⟨e1, e2⟩ := from_ i B b1 b3
    exact ⟨⟨_, e2, by rw [wr]; exact b2, by rw [← e1]; exact b3⟩, e1⟩
  have flv : ∀ i, lv ρ' H i → lv ρ h (τ i) ∧ ρ'.blk i = ρ.blk (τ i) := fun i ⟨B, b1, b3⟩ => by
    obtain ⟨e1, e2⟩ := from_ i B b1 b3
    exact ⟨⟨_, e2, by rw [← e1]; exact b3⟩, e1⟩
  have key : ∀ i, n0 ≤ i → lv ρ' H i → ∃ b, ks[i - n0]? = some (some b) ∧ τ i = b := fun i hi ⟨B, b1, b3⟩ => by
    have hil := lt_len b1
    cases hx : ks[i - n0]? with
    | none => rw [List.getElem?_eq_none_iff] at hx; omega
    | some x =>
      cases x with
      | none =>
        exfalso
        have : nl i = true := by
          rw [← hn]; simp [nlOf, hi, hx]
        rw [(mv i).1 this] at b3
        cases b3
      | some b => exact ⟨b, rfl, by rw [← hτ]; simp only [tauOf]; rw [if_neg (by omega), hx]; rfl⟩
  refine ⟨ρ', ⟨?_, fun x hx => List.all_eq_true.1 t2 x hx⟩, ⟨fun i B hB => ?_, fun i j hi hj he => ?_, fun i B hB => (ent i B hB).2.1, fun p hp => ?_, by rw [hH]; omega, fun i hi => by rw [hB i hi]; exact RH.base i hi⟩, ?_⟩
  · apply Array.ext_getElem?
    intro s
    have et : ∀ l : List Value, l.toArray[s]? = l[s]? := fun l => List.getElem?_toArray
    rw [et (concs ρ' T), concs_get]
    have h0 : a.tmps[s]? = (t[s]?).map (·.conc ρ) := by rw [RT.tmps, et (concs ρ t)]; exact concs_get ρ t s
    cases hv : T[s]? with
    | none =>
      rw [h0, List.getElem?_eq_none (by rw [List.getElem?_eq_none_iff] at hv; omega)]
      rfl
    | some v =>
      simp only [Option.map_some]
      have hs : s < t.length := by rw [← hTl]; exact (List.getElem?_eq_some_iff.1 hv).1
      have hg := hideBy_get T t hTl s
      rw [← hT, hv] at hg
      have hmg : (mvs τ nl T)[s]? = some (v.mv τ nl) := by
        have gen : ∀ (l : List V) (i : Nat), (mvs τ nl l)[i]? = (l[i]?).map (·.mv τ nl) := by
          intro l
          induction l with
          | nil => intro i; simp [mvs]
          | cons x l ih => intro i; cases i <;> simp [mvs, ih]
        rw [gen, hv]; rfl
      rw [hmg] at hg
      have hvm := List.mem_of_getElem? hv
      have hok := List.all_eq_true.1 t2 v hvm
      have hnil : v.nilOk nl = true := by
        have gen : ∀ l : List V, nilOks nl l = true → ∀ x ∈ l, x.nilOk nl = true := by
          intro l
          induction l with
          | nil => intro _ x hx; cases hx
          | cons y l ih =>
            intro hl x hx
            simp only [nilOks, Bool.and_eq_true] at hl
            rcases List.mem_cons.1 hx with rfl | hx
            · exact hl.1
            · exact ih hl.2 x hx
        exact gen T t3 v hvm
      cases v with
      | any k =>
        have := anyOwn_get T 0 s k t1 hv
        rw [Nat.zero_add] at this
        subst this
        rw [← hρ]
        simp only [V.conc]
        have hsz : k < a.tmps.size := by rw [RT.tmps]; simpa [concs_length] using hs
        simp [hsz]
      | _ =>
        rw [h0]
        simp only at hg
        rw [← hg]
        simp only [Option.map_some]
        have e1 := V.mv_conc (ρ := ρ) (ρ' := ⟨ρ'.blk, ρ.unk⟩) mv rfl _ hnil
        rw [← e1]
        exact congrArg some (V.conc_agree (ρ := ρ') (ρ' := ⟨ρ'.blk, ρ.unk⟩) (n := H.length) (fun _ _ => rfl) _ hok)
  · obtain ⟨e1, e2, e3⟩ := ent i B hB
    cases hni : nl i with
    | true =>
      rw [hni] at e1
      have hnil := (mv i).1 hni
      cases B with
      | cells cs ty own =>
        cases cs with
        | nil =>
          cases own with
          | row sz =>
            refine ⟨fun _ => rfl, fun h => (by rw [hnil] at h; cases h), fun _ _ => ⟨?_, fun h => (by rw [hnil] at h; cases h)⟩⟩
            rw [← hρ]; simp [hni]
          | _ => exact e1.elim
        | cons _ _ => exact e1.elim
      | rcd r => exact e1.elim
    | false =>
      rw [hni] at e1
      rw [(mv i).2 hni]
      exact (BlkOk.mv mv e2 e3).1 (RH.cell _ _ e1)
  · obtain ⟨a1, a2⟩ := flw i hi
    obtain ⟨b1, b2⟩ := flv j hj
    have e := RH.inj _ _ a1 b1 (by rw [← a2, ← b2]; exact he)
    have gone : ∀ x y, x < n0 → n0 ≤ y → lv ρ' H x → lv ρ' H y → τ x = τ y → False := fun x y hx hy hlx hly e => by
      obtain ⟨b, e1, e2⟩ := key y hy hly
      rw [(low x hx).1, e2] at e
      subst e
      obtain ⟨B, hB, _⟩ := hlx
      exact (k1 _ _ e1).2.2 hx B hB
    rcases Nat.lt_or_ge i n0 with hi0 | hi0 <;> rcases Nat.lt_or_ge j n0 with hj0 | hj0
    · rwa [(low i hi0).1, (low j hj0).1] at e
    · exact (gone i j hi0 hj0 hi.lv hj e).elim
    · exact (gone j i hj0 hi0 hj hi.lv e.symm).elim
    · obtain ⟨x, x1, x2⟩ := key i hi0 hi.lv
      obtain ⟨y, y1, y2⟩ := key j hj0 hj
      rw [x2, y2] at e
      subst e
      have := k2 _ _ _ x1 y1
      omega
  · obtain ⟨g1, g2, g3⟩ := RH.glob p hp
    have h1 := hG p hp
    have h2 := low p.2 (by omega)
    have e : ρ'.blk p.2 = ρ.blk p.2 := by rw [(mv p.2).2 h2.2, h2.1]
    exact ⟨by rw [e, g1], by rw [e, g2], by rw [hH]; omega⟩
  · refine ⟨rfl, rfl, rfl, Nat.le_refl _, fun _ _ _ => rfl, fun i hi => ?_, by omega, fun i hi hlw => ?_, fun i hi hlw => ?_⟩
    · rw [(mv i).2 (low i hi).2, (low i hi).1]
    · obtain ⟨a1, a2⟩ := flw i hlw
      obtain ⟨b, e1, e2⟩ := key i hi hlw.lv
      exact .inr ⟨τ i, by rw [e2]; exact (k1 _ _ e1).1, a1, by rw [a2]⟩
    · have := (flw i hlw).1
      rwa [(low i hi).1] at this
theorem Runs.pre {rnd : Option Nat} {code : Code} {t T T' : List V} {h H H' : Heap} {e : Ex} (hb : ∀ b, rnd = some b → b < n0) (hr : ∀ {ρ : Ren} {a : Act} {w : World}, RelT ρ h.length t a → RelH c ρ h w → ∃ ρ', RelT ρ' H.length T a ∧ RelH c ρ' H w ∧ Fr lim n0 ρ h w ρ' H w) (hs : Runs c lim n0 rnd code T H e T' H') : Runs c lim n0 rnd code t h e T' H' := by
  intro ρ a w RT RH
  obtain ⟨ρ1, RT1, RH1, F1⟩ := hr RT RH
  have := hs ρ1 a w RT1 RH1
  rw [rndOf_ren hb F1.ren] at this
  exact wpIn_mono this fun z a2 w2 ⟨hz, ρ2, ms, d, M, RT2, RH2, F2⟩ => ⟨hz, ρ2, ms, d, M, RT2, RH2, F1.trans F2⟩
theorem Runs.post {rnd : Option Nat} {code : Code} {t t1 T : List V} {h h1 H : Heap} {e : Ex} (hs : Runs c lim n0 rnd code t h e t1 h1) (hr : ∀ {ρ : Ren} {a : Act} {w : World}, RelT ρ h1.length t1 a → RelH c ρ h1 w → ∃ ρ', RelT ρ' H.length T a ∧ RelH c ρ' H w ∧ Fr lim n0 ρ h1 w ρ' H w) : Runs c lim n0 rnd code t h e T H := by
  intro ρ a w RT RH
  exact wpIn_mono (hs ρ a w RT RH) fun z a2 w2 ⟨hz, ρ2, ms, d, M, RT2, RH2, F2⟩ => by
    obtain ⟨ρ3, RT3, RH3, F3⟩ := hr RT2 RH2
    exact ⟨hz, ρ3, ms, d, M, RT3, RH3, F2.trans F3⟩
end
end Go.Proofs.YteefjegampdpoaaDoor.E2
end
section
namespace Go.Proofs.YteefjegampdpoaaDoor.E2
open Go Go.RowKit
def nf : Nat → Bool := fun _ => false
mutual
theorem V.nilOk_nf : ∀ x : V, x.nilOk nf = true
  | .raw v => rfl
  | .any k => rfl
  | .ptr b o => rfl
  | .slo b l => rfl
  | .yld b => rfl
  | .fn f x y => by simp only [V.nilOk, nilOks_nf x, nilOks_nf y, Bool.and_self]
  | .agg l => by simp only [V.nilOk, nilOks_nf l]
  | .tup l => by simp only [V.nilOk, nilOks_nf l]
  | .lit b => rfl
theorem nilOks_nf : ∀ l : List V, nilOks nf l = true
  | [] => rfl
  | x :: l => by simp only [nilOks, V.nilOk_nf x, nilOks_nf l, Bool.and_self]
end
theorem Blk.nilOk_nf (B : Blk) : B.nilOk nf = true := by
  cases B with
  | cells cs ty own => exact nilOks_nf cs
  | rcd r => exact nilOks_nf r.t
mutual
theorem V.mv_under {τ : Nat → Nat} {n m : Nat} (h : ∀ b, b < n → τ b < m) : ∀ x : V, x.under n = true → (x.mv τ nf).under m = true
  | .raw v, _ => rfl
  | .any k, h => by simp [V.under] at h
  | .ptr b o, hx => by simp only [V.under, V.mv, decide_eq_true_eq] at *; exact h b hx
  | .slo b l, hx => by simp only [V.under, V.mv, nf, decide_eq_true_eq] at *; exact h b hx
  | .yld b, hx => by simp only [V.under, V.mv, decide_eq_true_eq] at *; exact h b hx
  | .fn f x y, hx => by
    simp only [V.under, V.mv, Bool.and_eq_true] at *
    exact ⟨mvs_under h x hx.1, mvs_under h y hx.2⟩
  | .agg l, hx => by simp only [V.under, V.mv] at *; exact mvs_under h l hx
  | .tup l, hx => by simp only [V.under, V.mv] at *; exact mvs_under h l hx
  | .lit b, _ => rfl
theorem mvs_under {τ : Nat → Nat} {n m : Nat} (h : ∀ b, b < n → τ b < m) : ∀ l : List V, unders n l = true → unders m (mvs τ nf l) = true
  | [], _ => rfl
  | x :: l, hx => by
    simp only [unders, mvs, Bool.and_eq_true] at *
    exact ⟨V.mv_under h x hx.1, mvs_under h l hx.2⟩
end
theorem V.mv_slotOk {τ : Nat → Nat} {n m : Nat} (h : ∀ b, b < n → τ b < m) (x : V) (hx : x.slotOk n = true) : (x.mv τ nf).slotOk m = true := by
  cases x <;> first | rfl | exact V.slot_of_under _ (V.mv_under h _ hx)
theorem Blk.mv_under {τ : Nat → Nat} {n m : Nat} (h : ∀ b, b < n → τ b < m) (B : Blk) (hB : B.under n = true) : (B.mv τ nf).under m = true := by
  cases B with
  | cells cs ty own => exact mvs_under h cs hB
  | rcd r =>
    simp only [Blk.under, Blk.mv, List.all_eq_true] at hB ⊢
    have gen : ∀ l : List V, (∀ x ∈ l, x.slotOk n = true) → ∀ x ∈ mvs τ nf l, x.slotOk m = true := by
      intro l
      induction l with
      | nil => intro _ x hx; cases hx
      | cons y l ih =>
        intro hl x hx
        simp only [mvs, List.mem_cons] at hx
        rcases hx with rfl | hx
        · exact V.mv_slotOk h y (hl y List.mem_cons_self)
        · exact ih (fun z hz => hl z (List.mem_cons_of_mem _ hz)) x hx
    exact gen r.t hB
theorem Blk.mv_wr (τ : Nat → Nat) (nl : Nat → Bool) (B : Blk) : (B.mv τ nl).wr = B.wr := by
  cases B with
  | cells cs ty own => cases own <;> rfl
  | rcd r => rfl
def wrAt (h : Heap) (i : Nat) : Prop := ∃ B, h[i]? = some (some B) ∧ B.wr = true
section
variable {c : Cfg}
theorem embed {lim0 lim : Nat} {f : FuncId} {args : List V} {H H' h h' : Heap} {v : V} (μ : Nat → Nat) (hG : ∀ p ∈ c.G, p.2 < c.L)
    (hm : Meets c lim0 f args H v H') (hHH : H.length ≤ H'.length) (hua : unders H.length args = true) (hL0 : c.L ≤ H.length)
    (hbase : ∀ i, i < c.L → H[i]? = c.H0[i]?) (hsco : ∀ (i : Nat) (B : Blk), H[i]? = some (some B) → B.under H.length = true) (hnew : ∀ (i : Nat) (B : Blk), H.length ≤ i → H'[i]? = some (some B) → B.wr = true)
    (hlow : ∀ i, i < c.L → μ i = i) (hml : ∀ i, i < H.length → μ i < h.length)
    (hin : ∀ (i : Nat) (B : Blk), H[i]? = some (some B) → ∃ B', h[μ i]? = some (some B') ∧ (B.mv μ nf).le B' ∧ (B.wr = true → B' = B.mv μ nf))
    (hinj : ∀ i j : Nat, wrAt H i → (∃ B, H[j]? = some (some B)) → μ i = μ j → i = j) (hlim : ∀ i, lim0 ≤ i → wrAt H i → lim ≤ μ i)
    (hlen : h'.length = h.length + (H'.length - H.length)) (hb' : ∀ i, i < c.L → h'[i]? = h[i]?)
    (hout : ∀ (k : Nat) (B' : Blk), h'[k]? = some (some B') → (∃ (i : Nat) (B : Blk), H'[i]? = some (some B) ∧ k = (if i < H.length then μ i else h.length + (i - H.length)) ∧ (i < H.length → lim0 ≤ i ∧ wrAt H i) ∧ B' = B.mv (fun i => if i < H.length then μ i else h.length + (i - H.length)) nf) ∨ (k < h.length ∧ h[k]? = some (some B') ∧ ∀ i, lim0 ≤ i → wrAt H i → μ i ≠ k)) :
    Meets c lim f (mvs μ nf args) h (v.mv (fun i => if i < H.length then μ i else h.length + (i - H.length)) nf) h' := by
  intro ρ w RH hu
  generalize hν : (fun i => if i < H.length then μ i else h.length + (i - H.length)) = ν at *
  have nlow : ∀ i, i < H.length → ν i = μ i := fun i hi => by rw [← hν]; simp [hi]
  have nhigh : ∀ i, H.length ≤ i → ν i = h.length + (i - H.length) := fun i hi => by rw [← hν]; simp; omega
  have Mv : Moved μ nf ρ ⟨fun i => ρ.blk (μ i), ρ.unk⟩ := fun i => ⟨fun e => (by cases e), fun _ => rfl⟩
  have RH0 : RelH c ⟨fun i => ρ.blk (μ i), ρ.unk⟩ H w := by
    refine ⟨fun i B hB => ?_, fun i j hi hj he => ?_, hsco, fun p hp => ?_, hL0, hbase⟩
    · obtain ⟨B', b1, b2, _⟩ := hin i B hB
      exact (BlkOk.mv Mv (hsco i B hB) (Blk.nilOk_nf B)).1 ((RH.cell _ _ b1).le b2)
    · obtain ⟨B, a1, a2, a3⟩ := hi
      obtain ⟨C, d1, d3⟩ := hj
      obtain ⟨B', b1, _, b3⟩ := hin i B a1
      obtain ⟨C', e1, _, _⟩ := hin j C d1
      have := RH.inj (μ i) (μ j) ⟨B', b1, by rw [b3 a2, Blk.mv_wr]; exact a2, a3⟩ ⟨C', e1, d3⟩ he
      exact hinj i j ⟨B, a1, a2⟩ ⟨C, d1⟩ this
    · have h1 := hG p hp
      obtain ⟨g1, g2, _⟩ := RH.glob p hp
      show (ρ.blk (μ p.2)).n = p.1 ∧ (ρ.blk (μ p.2)).pre = [] ∧ _
      rw [hlow _ h1]
      exact ⟨g1, g2, by omega⟩
  have hargs : concs ρ (mvs μ nf args) = concs ⟨fun i => ρ.blk (μ i), ρ.unk⟩ args := (mvs_conc Mv rfl args (nilOks_nf args)).symm
  rw [hargs]
  refine (hm _ w RH0 hua).mono fun e w' ⟨ρ1, k1, k2, RH1, F1, k5⟩ => ?_
  generalize hρ' : (⟨fun k => if k < h.length then ρ.blk k else ρ1.blk (H.length + (k - h.length)), ρ.unk⟩ : Ren) = ρ'
  have rlow : ∀ k, k < h.length → ρ'.blk k = ρ.blk k := fun k hk => by rw [← hρ']; simp [hk]
  have rhigh : ∀ k, h.length ≤ k → ρ'.blk k = ρ1.blk (H.length + (k - h.length)) := fun k hk => by rw [← hρ']; simp; omega
  have Mv' : Moved ν nf ρ' ρ1 := fun i => ⟨fun e => (by cases e), fun _ => (by
    rcases Nat.lt_or_ge i H.length with hi | hi
    · rw [nlow i hi, rlow _ (hml i hi), F1.ren i hi]
    · rw [nhigh i hi, rhigh _ (by omega)]
      congr 1
      omega)⟩
  have hlwH : ∀ i, lw ⟨fun i => ρ.blk (μ i), ρ.unk⟩ H i → lw ρ h (μ i) ∧ wrAt H i := fun i ⟨B, a1, a2, a3⟩ => by
    obtain ⟨B', b1, _, b3⟩ := hin i B a1
    exact ⟨⟨B', b1, by rw [b3 a2, Blk.mv_wr]; exact a2, a3⟩, B, a1, a2⟩
  -- entries that stay
  have stay : ∀ k B, h[k]? = some (some B) → (ρ.blk k).nil = false → (∀ i, lim0 ≤ i → wrAt H i → μ i ≠ k) → w'.heap[(ρ.blk k).n]? = w.heap[(ρ.blk k).n]? := fun k B hB hn hne => by
    refine F1.blk _ (RH.lt ⟨B, hB, hn⟩) fun i hi hlwi e => ?_
    obtain ⟨q1, q2⟩ := hlwH i hlwi
    exact hne i hi q2 (RH.inj _ _ q1 ⟨B, hB, hn⟩ e)
  have fresh : ∀ i, H.length ≤ i → lw ρ1 H' i → w.heap.size ≤ (ρ1.blk i).n ∨ ∃ j, lim ≤ μ j ∧ lw ρ h (μ j) ∧ lim0 ≤ j ∧ wrAt H j ∧ (ρ1.blk i).n = (ρ.blk (μ j)).n := fun i hi hlwi => by
    rcases F1.fresh i hi hlwi with q | ⟨j, j1, j2, j3⟩
    · exact .inl q
    · obtain ⟨q1, q2⟩ := hlwH j j2
      exact .inr ⟨j, hlim j j1 q2, q1, j1, q2, j3⟩
  have kind : ∀ k, lv ρ' h' k → ∀ B', h'[k]? = some (some B') → (∃ i B, H'[i]? = some (some B) ∧ k = ν i ∧ (i < H.length → lim0 ≤ i ∧ wrAt H i) ∧ B' = B.mv ν nf ∧ ρ'.blk k = ρ1.blk i ∧ lv ρ1 H' i ∧ (B'.wr = true → lw ρ1 H' i)) ∨ (k < h.length ∧ h[k]? = some (some B') ∧ (∀ i, lim0 ≤ i → wrAt H i → μ i ≠ k) ∧ ρ'.blk k = ρ.blk k ∧ lv ρ h k) := fun k ⟨X, x1, x2⟩ B' hB' => by
    obtain rfl : X = B' := Option.some.inj (Option.some.inj (x1.symm.trans hB'))
    rcases hout k X hB' with ⟨i, B, q1, q2, q3, q4⟩ | ⟨q1, q2, q3⟩
    · have q2' : k = ν i := by rw [q2, ← hν]
      have hb : ρ'.blk k = ρ1.blk i := by rw [q2']; exact ((Mv' i).2 rfl).symm
      refine .inl ⟨i, B, q1, q2', q3, q4, hb, ⟨B, q1, by rw [← hb]; exact x2⟩, fun hw => ⟨B, q1, ?_, by rw [← hb]; exact x2⟩⟩
      rw [q4, Blk.mv_wr] at hw; exact hw
    · have hb := rlow k q1
      exact .inr ⟨q1, q2, q3, hb, X, q2, by rw [← hb]; exact x2⟩
  refine ⟨ρ', by rw [← hρ'], by rw [k2, V.mv_conc (ρ := ρ') (ρ' := ρ1) Mv' (by rw [k1, ← hρ']) v (V.nilOk_nf v)], ⟨fun k B' hB' => ?_, fun x y hx hy he => ?_, fun k B' hB' => ?_, fun p hp => ?_, ?_, fun i hi => by rw [hb' i hi]; exact RH.base i hi⟩, ⟨F1.os, F1.tape, F1.output, F1.size, fun k hk hn => ?_, fun k hk => rlow k hk, by omega, fun k hk hlwk => ?_, fun k hk hlwk => ?_⟩, ?_⟩
  · rcases hout k B' hB' with ⟨i, B, q1, q2, q3, q4⟩ | ⟨q1, q2, q3⟩
    · have q2' : k = ν i := by rw [q2, ← hν]
      subst q4
      rw [q2', ← (Mv' i).2 rfl]
      exact (BlkOk.mv Mv' (RH1.sco i B q1) (Blk.nilOk_nf B)).2 (RH1.cell i B q1)
    · rw [rlow k q1]
      exact (RH.cell k B' q2).move (RH.sco k B' q2) rlow fun hn => stay k B' q2 hn q3
  · obtain ⟨B, x1, x2, x3⟩ := hx
    obtain ⟨C, y1, y3⟩ := hy
    rcases kind x ⟨B, x1, x3⟩ B x1 with ⟨i, B0, p1, p2, p3, p4, p5, p6, p7⟩ | ⟨p1, p2, p3, p4, p5⟩ <;> rcases kind y ⟨C, y1, y3⟩ C y1 with ⟨j, C0, q1, q2, q3, q4, q5, q6, q7⟩ | ⟨q1, q2, q3, q4, q5⟩
    · rw [p5, q5] at he
      rw [p2, q2, RH1.inj i j (p7 x2) q6 he]
    · exfalso
      rw [p5, q4] at he
      rcases Nat.lt_or_ge i H.length with hi | hi
      · obtain ⟨r1, r2⟩ := hlwH i (F1.dead i hi (p7 x2))
        rw [F1.ren i hi] at he
        exact q3 i (p3 hi).1 r2 (RH.inj _ _ r1 q5 he)
      · rcases fresh i hi (p7 x2) with r | ⟨j, _, r2, r3, r4, r5⟩
        · have := RH.lt q5; omega
        · exact q3 j r3 r4 (RH.inj _ _ r2 q5 (r5.symm.trans he))
    · exfalso
      rw [p4, q5] at he
      have hlx : lw ρ h x := ⟨B, p2, x2, by rw [← p4]; exact x3⟩
      rcases Nat.lt_or_ge j H.length with hj | hj
      · obtain ⟨r0, D, r1, r2⟩ := q3 hj
        rw [F1.ren j hj] at he
        obtain ⟨B'', b1, _, _⟩ := hin j D r1
        have hnj : (ρ.blk (μ j)).nil = false := by
          obtain ⟨_, _, hn⟩ := q6
          rw [F1.ren j hj] at hn
          exact hn
        exact p3 j r0 ⟨D, r1, r2⟩ (RH.inj x (μ j) hlx ⟨B'', b1, hnj⟩ he).symm
      · have hlwj : lw ρ1 H' j := by
          obtain ⟨D, d1, d2⟩ := q6
          exact ⟨D, d1, hnew j D hj d1, d2⟩
        rcases fresh j hj hlwj with r | ⟨i, _, r2, r3, r4, r5⟩
        · have := RH.lt hlx.lv; omega
        · exact p3 i r3 r4 (RH.inj _ _ hlx r2.lv (he.trans r5)).symm
    · rw [p4, q4] at he
      exact RH.inj x y ⟨B, p2, x2, by rw [← p4]; exact x3⟩ q5 he
  · rw [hlen]
    rcases hout k B' hB' with ⟨i, B, q1, q2, q3, q4⟩ | ⟨q1, q2, q3⟩
    · subst q4
      refine Blk.mv_under (fun b hb => ?_) B (RH1.sco i B q1)
      rcases Nat.lt_or_ge b H.length with hb1 | hb1
      · rw [nlow b hb1]
        have := hml b hb1
        omega
      · rw [nhigh b hb1]; omega
    · exact Blk.under_mono (by omega) _ (RH.sco k B' q2)
  · obtain ⟨g1, g2, g3⟩ := RH.glob p hp
    exact ⟨by rw [rlow _ g3, g1], by rw [rlow _ g3, g2], by omega⟩
  · have := RH.big; omega
  · exact F1.blk k hk fun i hi hlwi => hn (μ i) (hlim i hi (hlwH i hlwi).2) (hlwH i hlwi).1
  · obtain ⟨B, x1, x2, x3⟩ := hlwk
    rcases kind k ⟨B, x1, x3⟩ B x1 with ⟨i, B0, p1, p2, p3, p4, p5, p6, p7⟩ | ⟨p1, p2, p3, p4, p5⟩
    · rw [p5]
      rcases Nat.lt_or_ge i H.length with hi | hi
      · rw [nlow i hi] at p2
        have := hml i hi
        omega
      · rcases fresh i hi (p7 x2) with r | ⟨j, r1, r2, _, _, r5⟩
        · exact .inl r
        · exact .inr ⟨μ j, r1, r2, r5⟩
    · omega
  · obtain ⟨B, x1, x2, x3⟩ := hlwk
    rcases kind k ⟨B, x1, x3⟩ B x1 with ⟨i, B0, p1, p2, p3, p4, p5, p6, p7⟩ | ⟨p1, p2, p3, p4, p5⟩
    · rcases Nat.lt_or_ge i H.length with hi | hi
      · have := (hlwH i (F1.dead i hi (p7 x2))).1
        rw [p2, nlow i hi]
        exact this
      · rw [nhigh i hi] at p2
        omega
    · exact ⟨B, p2, x2, by rw [← p4]; exact x3⟩
  · rw [hlen]
    refine V.mv_under (fun b hb => ?_) v k5
    rcases Nat.lt_or_ge b H.length with hb1 | hb1
    · rw [nlow b hb1]
      have := hml b hb1
      omega
    · rw [nhigh b hb1]; omega
end
end Go.Proofs.YteefjegampdpoaaDoor.E2
end
section
namespace Go.Proofs.YteefjegampdpoaaDoor.E2
open Go Go.RowKit
section
variable {c : Cfg}
theorem below_rel {ρ : Ren} {h : Heap} {w w' : World} (RH : RelH c ρ h w) (hb : ∀ k, k < w.heap.size → w'.heap[k]? = w.heap[k]?) : RelH c ρ h w' :=
  ⟨fun i B hi => (RH.cell i B hi).move (RH.sco i B hi) (fun _ _ => rfl) fun hn => hb _ (RH.lt ⟨B, hi, hn⟩), RH.inj, RH.sco, RH.glob, RH.big, RH.base⟩
theorem below_fr {lim : Nat} {ρ : Ren} {h : Heap} {w w' : World} (hl : lim ≤ h.length) (hb : Below w.heap.size w w') : Fr lim h.length ρ h w ρ h w' :=
  ⟨hb.os, hb.tape, hb.output, hb.size, fun k hk _ => hb.block k hk, fun _ _ => rfl, Nat.le_refl _, fun i h1 h2 => .inr ⟨i, by omega, h2, rfl⟩, fun _ _ h => h⟩
theorem fn_of_base (hH : c.H0.length = c.L) (hsc : ∀ (i : Nat) (B : Blk), c.H0[i]? = some (some B) → B.under c.L = true) (hG : ∀ p ∈ c.G, p.2 < c.L) {f : FuncId} {args : List V} {v : V} {h' : Heap}
    (hua : unders c.L args = true) (hv : v.under c.L = true) (hm : Meets c c.L f args c.H0 v h') : Ret c f args v := by
  intro h lim hL hl ρ w RH hu
  have hget : ∀ {i : Nat} {B : Blk}, c.H0[i]? = some (some B) → h[i]? = some (some B) := fun {i B} hi => by
    have := lt_len hi
    rw [RH.base i (by omega)]; exact hi
  have R0 : RelH c ρ c.H0 w := by
    refine ⟨fun i B hi => RH.cell i B (hget hi), fun i j hi hj he => ?_, fun i B hi => by rw [hH]; exact hsc i B hi, fun p hp => ⟨(RH.glob p hp).1, (RH.glob p hp).2.1, by rw [hH]; exact hG p hp⟩, by omega, fun _ _ => rfl⟩
    obtain ⟨B, a1, a2, a3⟩ := hi
    obtain ⟨C, b1, b3⟩ := hj
    exact RH.inj i j ⟨B, hget a1, a2, a3⟩ ⟨C, hget b1, b3⟩ he
  refine (hm ρ w R0 (by rw [hH]; exact hua)).mono fun e w' ⟨ρ', h1, h2, h3, F, h5⟩ => ?_
  have hblk : ∀ k, k < w.heap.size → w'.heap[k]? = w.heap[k]? := fun k hk => F.blk k hk fun i h6 h7 => by
    have := h7.lt
    omega
  have e1 : v.conc ρ' = v.conc ρ := V.conc_agree (n := c.L) (fun i hi => F.ren i (by omega)) v hv
  exact ⟨ρ, rfl, by rw [← e1]; exact h2, below_rel RH hblk, below_fr hl ⟨F.os, F.tape, F.output, F.size, fun k hk => hblk k hk⟩, V.under_mono RH.big v hv⟩
theorem fn_of (hm : c.P.follows .mixedOrders = true) (hfn : ∀ f, c.fns f = true → Callable c.P f) (hH : c.H0.length = c.L) (hsc : ∀ (i : Nat) (B : Blk), c.H0[i]? = some (some B) → B.under c.L = true) (hG : ∀ p ∈ c.G, p.2 < c.L)
    {n : Nat} {f : FuncId} {args : List V} {ans : List Ans} {v : V} {cons : List Prop} (he : (evFunc c n f args c.H0 c.L ans).map (fun o => (o.v, o.cons)) = some (v, cons)) (hua : unders c.L args = true) (hv : v.under c.L = true) (hc : Paid cons) : Ret c f args v := by
  rw [Option.map_eq_some_iff] at he
  obtain ⟨o, h1, h2⟩ := he
  obtain ⟨v', h', ans', cons'⟩ := o
  simp only [Prod.mk.injEq] at h2
  obtain ⟨rfl, rfl⟩ := h2
  exact fn_of_base hH hsc hG hua hv (meets_of hm hfn (Nat.le_refl _) (by omega) h1 hc)
theorem meets_ev (hm : c.P.follows .mixedOrders = true) (hfn : ∀ f, c.fns f = true → Callable c.P f) {lim : Nat} {H : Heap} (hL : c.L ≤ lim) (hl : lim ≤ H.length)
    {n : Nat} {f : FuncId} {args : List V} {ans : List Ans} {v : V} {h' : Heap} {cons : List Prop} (he : (evFunc c n f args H lim ans).map (fun o => (o.v, o.h, o.cons)) = some (v, h', cons)) (hc : Paid cons) : Meets c lim f args H v h' := by
  rw [Option.map_eq_some_iff] at he
  obtain ⟨o, h1, h2⟩ := he
  obtain ⟨v', h', ans', cons'⟩ := o
  simp only [Prod.mk.injEq] at h2
  obtain ⟨rfl, rfl, rfl⟩ := h2
  exact meets_of hm hfn hL hl h1 hc
theorem fn_of_calls {f : FuncId} {args : List Value} {x : Value} (h : ∀ w : World, Calls c.P f args.toArray w fun e w' => e = .returned x ∧ Below w.heap.size w w') : Ret c f (args.map .raw) (.raw x) := by
  intro h0 lim hL hl ρ w RH hu
  rw [concs_raw]
  refine (h w).mono fun e w' ⟨he, hb⟩ => ?_
  subst he
  exact ⟨ρ, rfl, rfl, below_rel RH hb.block, below_fr hl hb, rfl⟩
theorem calls_of_fn (hL : c.L = 0) (hG : c.G = []) {f : FuncId} {args : List Value} {x : Value} (h : Ret c f (args.map .raw) (.raw x)) (w : World) : Calls c.P f args.toArray w fun e w' => e = .returned x ∧ Below w.heap.size w w' := by
  have R0 : RelH c ⟨fun _ => Loc.at 0, fun _ => undef⟩ [] w := ⟨fun i B hi => by simp at hi, fun i j hi => by have := hi.lt; simp at this, fun i B hi => by simp at hi, fun p hp => (by rw [hG] at hp; cases hp), by simp [hL], fun i hi => by omega⟩
  have := h [] 0 (by omega) (Nat.le_refl _) _ w R0 (unders_raw _ _)
  rw [concs_raw] at this
  refine this.mono fun e w' ⟨ρ', _, he, _, F, _⟩ => ?_
  exact ⟨he, F.os, F.tape, F.output, F.size, fun k hk => F.blk k hk fun i _ h2 => by have := h2.lt; simp at this⟩
theorem inR_i64 {n : Int} (h1 : -9223372036854775808 ≤ n) (h2 : n ≤ 9223372036854775807) : inR .i64 n := IntWalk.i64_in n (by omega)
theorem Meets.post {lim : Nat} {f : FuncId} {args : List V} {h h1 H : Heap} {v v' : V} (hm : Meets c lim f args h v h1) (hna : v'.under H.length = true)
    (hr : ∀ {ρ : Ren} {a : Act} {w : World}, RelT ρ h1.length [v] a → RelH c ρ h1 w → ∃ ρ', RelT ρ' H.length [v'] a ∧ RelH c ρ' H w ∧ Fr lim h.length ρ h1 w ρ' H w) : Meets c lim f args h v' H := by
  intro ρ w RH hu
  refine (hm ρ w RH hu).mono fun e w' ⟨ρ1, k1, k2, RH1, F1, k5⟩ => ?_
  obtain ⟨ρ2, RT2, RH2, F2⟩ := hr (a := ⟨#[v.conc ρ1], []⟩) ⟨rfl, fun x hx => by rw [List.mem_singleton] at hx; subst hx; exact V.slot_of_under _ k5⟩ RH1
  refine ⟨⟨ρ2.blk, ρ.unk⟩, rfl, ?_, relH_unk RH2 _, (F1.trans F2).unk _, hna⟩
  have e1 : v.conc ρ1 = v'.conc ρ2 := by
    have := RT2.tmps
    simp only [concs] at this
    have h2 := congrArg Array.toList this
    simpa using h2
  rw [k2, e1, V.conc_agree (ρ := ρ2) (ρ' := ⟨ρ2.blk, ρ.unk⟩) (fun _ _ => rfl) _ hna]
def loopsIn : Code → List Code
  | .loop x => x :: loopsIn x
  | .seq x y => loopsIn x ++ loopsIn y
  | .cond _ x y => loopsIn x ++ loopsIn y
  | .block _ x => loopsIn x
  | .scope x => loopsIn x
  | .rangeFunc _ _ _ y => loopsIn y
  | _ => []
def loopOf (P : Program) (f i : Nat) : Code := match P.funcs[f]? with
  | some fn => match fn.body with
    | some b => (loopsIn b).getD i .skip
    | none => .skip
  | none => .skip
theorem body_of (hmx : c.P.follows .mixedOrders = true) (hfn : ∀ f, c.fns f = true → Callable c.P f) {lim : Nat} (hL : c.L ≤ lim) {rnd : Option Nat} {fi k n n0 : Nat} {code : Code} {T T' : List V} {H H' : Heap} {ans : List Ans} {e : Ex} {cons : List Prop}
    (he : (evCode c ⟨evFunc c n, evYlds c (evFunc c n) 3⟩ lim rnd fi code k T H ans).map (fun r => (r.e, r.t, r.h, r.cons)) = some (e, T', H', cons)) (hp : Paid cons)
    (hln : lim ≤ n0) (hnl : n0 ≤ H.length) (hb : ∀ b, rnd = some b → b < H.length) (hs : ∀ j x, (rangesIn code)[j]? = some x → rangeAt c.P fi (k + j) = x) : Runs c lim n0 rnd code T H e T' H' := by
  rw [Option.map_eq_some_iff] at he
  obtain ⟨r, h1, h2⟩ := he
  simp only [Prod.mk.injEq] at h2
  obtain ⟨rfl, rfl, rfl, rfl⟩ := h2
  exact (evCode_sound hmx (evYlds_sound hmx hfn (evFunc_sound hmx hfn n) 3) hfn hL code k _ _ _ _ h1 hp.all (Nat.le_trans hln hnl) hb hs).fewer hnl hln
theorem noRanges {P : Program} {fi k : Nat} {code : Code} (h : (rangesIn code).isEmpty = true) : ∀ j x, (rangesIn code)[j]? = some x → rangeAt P fi (k + j) = x := fun j x hx => by
  rw [List.isEmpty_iff] at h
  rw [h] at hx
  simp at hx
theorem noRnd {n : Nat} : ∀ b, (none : Option Nat) = some b → b < n := fun b e => by cases e
end
end Go.Proofs.YteefjegampdpoaaDoor.E2
end
section
namespace Go.Proofs.YteefjegampdpoaaDoor
open Go Go.RowKit Go.Proofs.YteefjegampdpoaaDoor.E2
noncomputable def cfx : Cfg := ⟨Tryd.prog, [], 0, [], true, fun f => (Tryd.prog.funcs[f]?).any fun fn => !fn.body.isNone⟩
theorem cfx_mixed : cfx.P.follows .mixedOrders = true := by kernel_rfl
theorem funcs_plain2 : ((Tryd.prog.funcs.toList.all fun fn => !(fn.name == "runtime.NumGoroutine"))) = true := by kernel_rfl
theorem cfx_call : ∀ f, cfx.fns f = true → Callable cfx.P f := fun f hf => by
  cases hg : Tryd.prog.funcs[f]? with
  | none =>
    have hf' : ((Tryd.prog.funcs[f]?).any fun fn => !fn.body.isNone) = true := hf
    rw [hg] at hf'
    cases hf'
  | some fn =>
    have hf' : ((Tryd.prog.funcs[f]?).any fun fn => !fn.body.isNone) = true := hf
    rw [hg] at hf'
    have h := List.all_eq_true.1 funcs_plain2 fn (Array.mem_toList_iff.2 (Array.mem_of_getElem? hg))
    exact ⟨fn, hg, by simpa using h, by simpa using hf'⟩
theorem cfx_base : cfx.H0.length = cfx.L ∧ (∀ (i : Nat) (B : Blk), cfx.H0[i]? = some (some B) → B.under cfx.L = true) ∧ ∀ p ∈ cfx.G, p.2 < cfx.L :=
  ⟨rfl, fun i B h => by simp [cfx] at h, fun p h => by simp [cfx] at h⟩
theorem cfx_G : ∀ p ∈ cfx.G, p.2 < cfx.L := fun p h => by simp [cfx] at h
end Go.Proofs.YteefjegampdpoaaDoor
end
section
namespace Go.Proofs.YteefjegampdpoaaDoor.E2
open Go Go.RowKit
section
variable {τ : Nat → Nat} {nl : Nat → Bool} {h : Heap} {m j : Nat} {l : Heap}
theorem ents_nil : Paid (entries τ nl h m j []) := trivial
theorem ents_none (k : Paid (entries τ nl h m (j + 1) l)) : Paid (entries τ nl h m j (none :: l)) := k
theorem ents_say {B : Blk} (h1 : nl j = false) (h2 : h[τ j]? = some (some (B.mv τ nl))) (h3 : B.under m = true) (h4 : B.nilOk nl = true) (k : Paid (entries τ nl h m (j + 1) l)) : Paid (entries τ nl h m j (some B :: l)) := by
  refine ⟨?_, h3, h4, k⟩
  rw [h1]; exact h2
theorem ents_raw {cs : List V} {ty : TypeId} {own : Own} (hr : cs.all isRawV = true) (h1 : nl j = false) (h2 : h[τ j]? = some (some (.cells cs ty own))) (k : Paid (entries τ nl h m (j + 1) l)) : Paid (entries τ nl h m j (some (.cells cs ty own) :: l)) := by
  refine ⟨?_, unders_raws _ _ hr, nilOks_raw _ _ hr, k⟩
  rw [h1]
  show h[τ j]? = some (some (.cells (mvs τ nl cs) ty own))
  rw [mvs_raw τ nl cs hr]
  exact h2
theorem ents_nilB {ty : TypeId} {sz : Nat} (h1 : nl j = true) (k : Paid (entries τ nl h m (j + 1) l)) : Paid (entries τ nl h m j (some (.cells [] ty (.row sz)) :: l)) := by
  refine ⟨?_, rfl, rfl, k⟩
  rw [h1]; exact trivial
theorem ents_nilC {cs : List V} (hc : cs = []) {ty : TypeId} {sz : Nat} (h1 : nl j = true) (k : Paid (entries τ nl h m (j + 1) l)) : Paid (entries τ nl h m j (some (.cells cs ty (.row sz)) :: l)) := by
  subst hc; exact ents_nilB h1 k
end
theorem no_base {c : Cfg} {H h : Heap} (hL : c.L = 0) : ∀ i, i < c.L → H[i]? = h[i]? := fun i hi => by omega
abbrev iV (n : Int) : V := .raw (.int .i64 n)
abbrev uV : V := .raw (.tuple #[])
theorem reshape2 {c : Cfg} {lim : Nat} (n0 : Nat) (hG : ∀ p ∈ c.G, p.2 < c.L) (hL : c.L = 0) (ks : List (Option Nat)) {t T : List V} {h H : Heap} (hq : (Nat.ble n0 h.length && Nat.beq H.length (n0 + ks.length) && Nat.ble lim n0 && Nat.beq T.length t.length && (anyOwn 0 T && T.all (·.slotOk H.length) && nilOks (nlOf n0 ks) T) && keysOk lim n0 h.length H ks) = true)
    (hT : mvs (tauOf n0 ks) (nlOf n0 ks) T = hideBy T t) (hE : Paid (entries (tauOf n0 ks) (nlOf n0 ks) h H.length 0 H))
    {ρ : Ren} {a : Act} {w : World} (RT : RelT ρ h.length t a) (RH : RelH c ρ h w) : ∃ ρ', RelT ρ' H.length T a ∧ RelH c ρ' H w ∧ Fr lim n0 ρ h w ρ' H w := by
  rw [Bool.and_eq_true, Bool.and_eq_true, Bool.and_eq_true, Bool.and_eq_true, Bool.and_eq_true] at hq
  obtain ⟨⟨⟨⟨⟨q1, q2⟩, q3⟩, q4⟩, q5⟩, q6⟩ := hq
  exact reshape hG ks (Nat.le_of_ble_eq_true q1) (Nat.eq_of_beq_eq_true q2) (Nat.le_of_ble_eq_true q3) (by omega) hT (Nat.eq_of_beq_eq_true q4) q5 (no_base hL) q6 hE RT RH
def ints (zs : List Int) : List V := zs.map fun n => .raw (.int .i64 n)
theorem ints_all (zs : List Int) : (ints zs).all isRawV = true := by
  rw [List.all_eq_true]
  intro x hx
  obtain ⟨v, _, rfl⟩ := List.mem_map.1 hx
  rfl
theorem ints_len (zs : List Int) : (ints zs).length = zs.length := by simp [ints]
theorem ints_take (zs : List Int) (n : Nat) : (ints zs).take n = ints (zs.take n) := by simp [ints, List.map_take]
theorem ints_one (zs : List Int) : oneCells (ints zs) = true := by
  induction zs with
  | nil => rfl
  | cons z zs ih => exact ih
theorem ints_app (xs ys : List Int) : ints xs ++ ints ys = ints (xs ++ ys) := by simp [ints]
def at' (zs : List Int) (k : Nat) : Int := zs.getD k 0
theorem raws_raw : ∀ l : List Value, raws (l.map .raw) = some l
  | [] => rfl
  | v :: l => by simp [raws, raws_raw l]
theorem load_one {c : Cfg} {zs : List Int} {T : TypeId} {off : Nat} (hT : pureRun c.P (isAgg T) = some false) (h : off < zs.length) : loadRow c T (ints zs) off = some (.raw (.int .i64 (at' zs off))) := by
  unfold loadRow
  rw [hT]
  dsimp only [ints]
  rw [List.getElem?_map, List.getElem?_eq_getElem h]
  simp [at', List.getD, List.getElem?_eq_getElem h]
theorem load_agg {c : Cfg} {zs : List Int} {T : TypeId} {off : Nat} (n : Nat) (hT : pureRun c.P (isAgg T) = some true) (hn : pureRun c.P (Go.sizeOf T) = some n) (h0 : 0 < n) (h : off + n ≤ zs.length) : loadRow c T (ints zs) off = some (.raw (.agg ((List.range n).map fun j => Value.int .i64 (at' zs (off + j))).toArray)) := by
  unfold loadRow
  rw [hT, hn]
  dsimp only [ints]
  simp only [List.length_map, h, h0, and_self, if_true]
  have e : List.take n (List.drop off (List.map (fun n => V.raw (Value.int .i64 n)) zs)) = ((List.range n).map fun j => Value.int .i64 (at' zs (off + j))).map V.raw := by
    apply List.ext_getElem?
    intro j
    rw [List.getElem?_take, List.getElem?_drop, List.getElem?_map, List.getElem?_map, List.getElem?_map]
    by_cases hj : j < n
    · rw [if_pos hj, List.getElem?_range hj, List.getElem?_eq_getElem (by omega : off + j < zs.length)]
      simp [at', List.getD, List.getElem?_eq_getElem (by omega : off + j < zs.length)]
    · rw [if_neg hj, List.getElem?_eq_none (by simp; omega : (List.range n).length ≤ j)]
      rfl
  rw [e]
  unfold mkAgg
  rw [raws_raw]
abbrev rowV (zs : List Int) (off n : Nat) : V := .raw (.agg ((List.range n).map fun j => Value.int .i64 (at' zs (off + j))).toArray)
def putI (zs : List Int) (k : Nat) (xs : List Int) : List Int := zs.take k ++ xs ++ zs.drop (k + xs.length)
theorem putI_len {zs : List Int} {k : Nat} {xs : List Int} (h : k + xs.length ≤ zs.length) : (putI zs k xs).length = zs.length := by
  simp [putI]; omega
theorem putI_length (zs : List Int) (k : Nat) (xs : List Int) : (putI zs k xs).length = min k zs.length + (xs.length + (zs.length - (k + xs.length))) := by
  simp [putI]
theorem at_putI {zs : List Int} {k : Nat} {xs : List Int} (h : k + xs.length ≤ zs.length) (j : Nat) : at' (putI zs k xs) j = if k ≤ j ∧ j < k + xs.length then at' xs (j - k) else at' zs j := by
  have hk : (zs.take k).length = k := by simp; omega
  unfold at' putI
  rw [List.getD_eq_getElem?_getD, List.getD_eq_getElem?_getD, List.getD_eq_getElem?_getD]
  split
  · rename_i hj
    rw [List.getElem?_append_left (by simp; omega), List.getElem?_append_right (by omega), hk]
  · rename_i hj
    rcases Nat.lt_or_ge j k with h1 | h1
    · rw [List.getElem?_append_left (by simp; omega), List.getElem?_append_left (by omega), List.getElem?_take]
      simp [h1]
    · have h2 : k + xs.length ≤ j := by
        rcases Nat.lt_or_ge j (k + xs.length) with h3 | h3
        · exact absurd ⟨h1, h3⟩ hj
        · exact h3
      rw [List.getElem?_append_right (by simp; omega), List.getElem?_drop]
      congr 2
      simp [hk]; omega
theorem putAt_ints (zs : List Int) (k : Nat) (xs : List Int) (h : k + xs.length ≤ zs.length) : putAt (ints zs) k (ints xs) = ints (putI zs k xs) := by
  unfold putAt putI ints
  simp [List.map_take, List.map_drop]
theorem ext_at {xs ys : List Int} (hl : xs.length = ys.length) (h : ∀ j, j < xs.length → at' xs j = at' ys j) : xs = ys := by
  apply List.ext_getElem hl
  intro j h1 h2
  have := h j h1
  simpa [at', List.getD, h1, h2] using this
theorem store_ints {c : Cfg} {names : Nat} {T : TypeId} {zs : List Int} {off : Nat} {x : V} (xs : List Int) (hx : cellsV x = some (ints xs)) (hn : pureRun c.P (Go.sizeOf T) = some xs.length) (h0 : 0 < xs.length) (h : off + xs.length ≤ zs.length) : storeRow c names T (ints zs) off x = some (ints (putI zs off xs)) := by
  unfold storeRow
  rw [hx, hn]
  have e1 : (ints xs).length = xs.length := ints_len xs
  have e2 : (ints zs).length = zs.length := ints_len zs
  have e3 : unders names (ints xs) = true := unders_raws names _ (ints_all xs)
  simp only [e1, e2, h0, h, ints_one, e3, and_self, if_true]
  rw [putAt_ints zs off xs h]
def zeroI : Value → Bool
  | .int .i64 n => n == 0
  | _ => false
theorem zeroI_ok {v : Value} (h : zeroI v = true) : v = .int .i64 0 := by
  unfold zeroI at h
  split at h
  · simp at h; rw [h]
  · cases h
theorem mk0_ints (z : Array Value) (hz : z.toList.all zeroI = true) (h0 : 0 < z.size) (n : Nat) : mk0 z n = ints (List.replicate n 0) := by
  unfold mk0 ints
  apply List.ext_getElem?
  intro i
  rw [List.getElem?_map, List.getElem?_map]
  by_cases hi : i < n
  · have hm : i % z.size < z.size := Nat.mod_lt _ h0
    have e : z[i % z.size] = .int .i64 0 := zeroI_ok (List.all_eq_true.1 hz _ (Array.mem_toList_iff.2 (Array.getElem_mem hm)))
    rw [List.getElem?_range hi, List.getElem?_replicate, if_pos hi]
    simp only [Option.map_some]
    rw [getElem!_pos z _ hm, e]
  · rw [List.getElem?_eq_none (by simpa using hi), List.getElem?_eq_none (by simpa using hi)]
    rfl
theorem ones_take (zs : List Int) (n : Nat) : oneCells ((ints zs).take n) = true := by rw [ints_take]; exact ints_one _
theorem app_lit (zs : List Int) (xs : List Int) {l : List V} (h : l = ints xs) : ints zs ++ l = ints (zs ++ xs) := by rw [h, ints_app]
theorem app_row (zs xs : List Int) (n : Nat) : ints zs ++ (ints xs).take n = ints (zs ++ xs.take n) := by rw [ints_take, ints_app]
theorem app_row0 (xs : List Int) (n : Nat) : [] ++ (ints xs).take n = ints (xs.take n) := by rw [List.nil_append, ints_take]
theorem row_row0 (xs : List Int) (n : Nat) : (ints xs).take n = ints (xs.take n) := ints_take xs n
theorem below2 {c : Cfg} {lim0 lim : Nat} (hL : c.L = 0) (hG : c.G = []) {f : FuncId} {args : List V} {A B : List V} {T U : TypeId} {N h : Heap} {v : V} (i j : Nat)
    (hm : Meets c lim0 f args [some (.cells A T .ro), some (.cells B U .ro)] v ([some (.cells A T .ro), some (.cells B U .ro)] ++ N))
    (hA : A.all isRawV = true) (hB : B.all isRawV = true) (hua : unders 2 args = true)
    (hnew : ∀ (k : Nat) (X : Blk), N[k]? = some (some X) → X.wr = true ∧ ∃ cs ty own, X = .cells cs ty own ∧ cs.all isRawV = true)
    {o1 o2 : Own} (h1 : h[i]? = some (some (.cells A T o1))) (h2 : h[j]? = some (some (.cells B U o2))) (hlim : lim ≤ h.length) :
    Meets c lim f (mvs (fun k => if k = 0 then i else j) nf args) h (v.mv (fun k => if k < 2 then (if k = 0 then i else j) else h.length + (k - 2)) nf) (h ++ N) := by
  have hmv : ∀ {cs : List V} {τ : Nat → Nat} {ty : TypeId} {own : Own}, cs.all isRawV = true → (Blk.cells cs ty own).mv τ nf = .cells cs ty own := fun {cs τ ty own} h => by
    show Blk.cells (mvs τ nf cs) ty own = _
    rw [mvs_raw τ nf cs h]
  have hl : ∀ (B : Blk) (cs : List V) (ty : TypeId) (o : Own), B = .cells cs ty .ro → B.le (.cells cs ty o) := fun B cs ty o e => .inr ⟨cs, ty, o, e, rfl⟩
  have two : ∀ (k : Nat) (X : Blk), ([some (.cells A T .ro), some (.cells B U .ro)] : Heap)[k]? = some (some X) → (k = 0 ∧ X = .cells A T .ro) ∨ (k = 1 ∧ X = .cells B U .ro) := fun k X hk => by
    match k with
    | 0 => simp only [List.getElem?_cons_zero, Option.some.injEq] at hk; exact .inl ⟨rfl, hk.symm⟩
    | 1 => simp only [List.getElem?_cons_succ, List.getElem?_cons_zero, Option.some.injEq] at hk; exact .inr ⟨rfl, hk.symm⟩
    | k + 2 => simp at hk
  have nowr : ∀ k, ¬ wrAt ([some (.cells A T .ro), some (.cells B U .ro)] : Heap) k := fun k ⟨X, hX, hw⟩ => by
    rcases two k X hX with ⟨_, rfl⟩ | ⟨_, rfl⟩ <;> cases hw
  have hi := lt_len h1
  have hj := lt_len h2
  refine embed (H := [some (.cells A T .ro), some (.cells B U .ro)]) (fun k => if k = 0 then i else j) (fun p hp => by rw [hG] at hp; cases hp) hm (by simp) hua (by omega) (fun k hk => by omega) ?_ ?_ (fun k hk => by omega) ?_ ?_ ?_ ?_ (by simp) (fun k hk => by omega) ?_
  · intro k X hX
    rcases two k X hX with ⟨_, rfl⟩ | ⟨_, rfl⟩
    · exact unders_raws _ _ hA
    · exact unders_raws _ _ hB
  · intro k X hk hX
    rw [List.getElem?_append_right hk] at hX
    exact (hnew _ X hX).1
  · intro k hk
    show (if k = 0 then i else j) < h.length
    split <;> assumption
  · intro k X hX
    rcases two k X hX with ⟨rfl, rfl⟩ | ⟨rfl, rfl⟩
    · exact ⟨_, h1, by rw [hmv hA]; exact hl _ _ _ _ rfl, fun hw => by cases hw⟩
    · exact ⟨_, h2, by rw [hmv hB]; exact hl _ _ _ _ rfl, fun hw => by cases hw⟩
  · intro a b ha
    exact absurd ha (nowr a)
  · intro k _ hk
    exact absurd hk (nowr k)
  · intro k X hX
    rcases Nat.lt_or_ge k h.length with hk | hk
    · rw [List.getElem?_append_left hk] at hX
      exact .inr ⟨hk, hX, fun i' _ hw => absurd hw (nowr i')⟩
    · rw [List.getElem?_append_right hk] at hX
      obtain ⟨_, cs, ty, own, rfl, hc⟩ := hnew _ X hX
      refine .inl ⟨2 + (k - h.length), _, ?_, ?_, fun hlt => absurd (show 2 + (k - h.length) < 2 from hlt) (by omega), (hmv hc).symm⟩
      · rw [List.getElem?_append_right (show 2 ≤ 2 + (k - h.length) by omega)]
        show N[2 + (k - h.length) - 2]? = _
        rw [show 2 + (k - h.length) - 2 = k - h.length by omega]
        exact hX
      · refine Eq.trans ?_ (if_neg (fun hlt => absurd (show 2 + (k - h.length) < 2 from hlt) (by omega))).symm
        show k = h.length + (2 + (k - h.length) - 2)
        omega
theorem below1 {c : Cfg} {lim0 lim : Nat} (hL : c.L = 0) (hG : c.G = []) {f : FuncId} {args : List V} {A : List V} {T : TypeId} {N h : Heap} {v : V} (i : Nat)
    (hm : Meets c lim0 f args [some (.cells A T .ro)] v ([some (.cells A T .ro)] ++ N))
    (hA : A.all isRawV = true) (hua : unders 1 args = true)
    (hnew : ∀ (k : Nat) (X : Blk), N[k]? = some (some X) → X.wr = true ∧ ∃ cs ty own, X = .cells cs ty own ∧ cs.all isRawV = true)
    {o1 : Own} (h1 : h[i]? = some (some (.cells A T o1))) (hlim : lim ≤ h.length) :
    Meets c lim f (mvs (fun _ => i) nf args) h (v.mv (fun k => if k < 1 then i else h.length + (k - 1)) nf) (h ++ N) := by
  have hmv : ∀ {cs : List V} {τ : Nat → Nat} {ty : TypeId} {own : Own}, cs.all isRawV = true → (Blk.cells cs ty own).mv τ nf = .cells cs ty own := fun {cs τ ty own} h => by
    show Blk.cells (mvs τ nf cs) ty own = _
    rw [mvs_raw τ nf cs h]
  have one : ∀ (k : Nat) (X : Blk), ([some (.cells A T .ro)] : Heap)[k]? = some (some X) → k = 0 ∧ X = .cells A T .ro := fun k X hk => by
    match k with
    | 0 => simp only [List.getElem?_cons_zero, Option.some.injEq] at hk; exact ⟨rfl, hk.symm⟩
    | k + 1 => simp at hk
  have nowr : ∀ k, ¬ wrAt ([some (.cells A T .ro)] : Heap) k := fun k ⟨X, hX, hw⟩ => by
    obtain ⟨_, rfl⟩ := one k X hX
    cases hw
  have hi := lt_len h1
  refine embed (H := [some (.cells A T .ro)]) (fun _ => i) (fun p hp => by rw [hG] at hp; cases hp) hm (by simp) hua (by omega) (fun k hk => by omega) ?_ ?_ (fun k hk => by omega) ?_ ?_ ?_ ?_ (by simp) (fun k hk => by omega) ?_
  · intro k X hX
    obtain ⟨_, rfl⟩ := one k X hX
    exact unders_raws _ _ hA
  · intro k X hk hX
    rw [List.getElem?_append_right hk] at hX
    exact (hnew _ X hX).1
  · intro k hk
    exact hi
  · intro k X hX
    obtain ⟨rfl, rfl⟩ := one k X hX
    exact ⟨_, h1, by rw [hmv hA]; exact .inr ⟨_, _, _, rfl, rfl⟩, fun hw => by cases hw⟩
  · intro a b ha
    exact absurd ha (nowr a)
  · intro k _ hk
    exact absurd hk (nowr k)
  · intro k X hX
    rcases Nat.lt_or_ge k h.length with hk | hk
    · rw [List.getElem?_append_left hk] at hX
      exact .inr ⟨hk, hX, fun i' _ hw => absurd hw (nowr i')⟩
    · rw [List.getElem?_append_right hk] at hX
      obtain ⟨_, cs, ty, own, rfl, hc⟩ := hnew _ X hX
      refine .inl ⟨1 + (k - h.length), _, ?_, ?_, fun hlt => absurd (show 1 + (k - h.length) < 1 from hlt) (by omega), (hmv hc).symm⟩
      · rw [List.getElem?_append_right (show 1 ≤ 1 + (k - h.length) by omega)]
        show N[1 + (k - h.length) - 1]? = _
        rw [show 1 + (k - h.length) - 1 = k - h.length by omega]
        exact hX
      · refine Eq.trans ?_ (if_neg (fun hlt => absurd (show 1 + (k - h.length) < 1 from hlt) (by omega))).symm
        show k = h.length + (1 + (k - h.length) - 1)
        omega
end Go.Proofs.YteefjegampdpoaaDoor.E2
end
section
namespace Go.Proofs.YteefjegampdpoaaDoor.E2
open Go Go.RowKit
section
variable {c : Cfg} {lim n0 : Nat} {rnd : Option Nat} {x : Code}
theorem rounds_from (hb : ∀ b, rnd = some b → b < n0) (T : Nat → List V) (H : Nat → Heap) (n : Nat) {e : Ex} {Te : List V} {He : Heap} (he : e ≠ .normal)
    (hstep : ∀ i, i < n → Runs c lim n0 rnd x (T i) (H i) .normal (T (i + 1)) (H (i + 1))) (hend : Runs c lim n0 rnd x (T n) (H n) e Te He) : ∀ k i, i + k = n → ∃ m, Rounds c lim n0 rnd x m (T i) (H i) e Te He := by
  intro k
  induction k with
  | zero =>
    intro i hi
    have : i = n := by omega
    subst this
    exact ⟨1, rounds_done hend he⟩
  | succ k ih =>
    intro i hi
    obtain ⟨m, hm⟩ := ih (i + 1) (by omega)
    exact ⟨m + 1, rounds_more hb (hstep i (by omega)) hm⟩
theorem upto (hb : ∀ b, rnd = some b → b < n0) (T : Nat → List V) (H : Nat → Heap) (n : Nat) {e : Ex} {Te : List V} {He : Heap} (he : e ≠ .normal)
    (hstep : ∀ i, i < n → Runs c lim n0 rnd x (T i) (H i) .normal (T (i + 1)) (H (i + 1))) (hend : Runs c lim n0 rnd x (T n) (H n) e Te He) : Runs c lim n0 rnd (.loop x) (T 0) (H 0) e Te He := by
  obtain ⟨m, hm⟩ := rounds_from hb T H n he hstep hend n 0 (by omega)
  exact runs_loop hm
theorem upto_find (hb : ∀ b, rnd = some b → b < n0) (good : Nat → Bool) (T : Nat → List V) (H : Nat → Heap) (n : Nat) {e e1 : Ex} {Te : List V} {He : Heap} (T1 : Nat → List V) (H1 : Nat → Heap) (he : e ≠ .normal) (he1 : e1 ≠ .normal)
    (hstep : ∀ i, i < n → good i = true → Runs c lim n0 rnd x (T i) (H i) .normal (T (i + 1)) (H (i + 1))) (hbad : ∀ i, i < n → good i = false → Runs c lim n0 rnd x (T i) (H i) e1 (T1 i) (H1 i)) (hend : Runs c lim n0 rnd x (T n) (H n) e Te He) :
    ((List.range n).all good = true ∧ Runs c lim n0 rnd (.loop x) (T 0) (H 0) e Te He) ∨ ((List.range n).all good = false ∧ ∃ i, i < n ∧ good i = false ∧ (∀ j, j < i → good j = true) ∧ Runs c lim n0 rnd (.loop x) (T 0) (H 0) e1 (T1 i) (H1 i)) := by
  cases h : (List.range n).all good with
  | true =>
    left
    rw [List.all_eq_true] at h
    exact ⟨rfl, upto hb T H n he (fun i hi => hstep i hi (h i (List.mem_range.2 hi))) hend⟩
  | false =>
    right
    refine ⟨rfl, ?_⟩
    have : ∃ i, i < n ∧ good i = false ∧ ∀ j, j < i → good j = true := by
      clear hstep hbad hend
      induction n with
      | zero => simp at h
      | succ n ih =>
        rw [List.range_succ, List.all_append] at h
        cases h2 : (List.range n).all good with
        | false =>
          obtain ⟨i, a, b, d⟩ := ih h2
          exact ⟨i, by omega, b, d⟩
        | true =>
          rw [h2] at h
          simp at h
          exact ⟨n, by omega, h, fun j hj => List.all_eq_true.1 h2 j (List.mem_range.2 hj)⟩
    obtain ⟨i, hi, hbi, hlt⟩ := this
    refine ⟨i, hi, hbi, hlt, ?_⟩
    exact upto hb T H i he1 (fun j hj => hstep j (by omega) (hlt j hj)) (hbad i hi hbi)
end
def iterO {σ : Type} (f : Nat → σ → Option σ) : Nat → Nat → σ → Option σ
  | _, 0, s => some s
  | a, k + 1, s => (f a s).bind (iterO f (a + 1) k)
section
variable {c : Cfg} {lim n0 : Nat} {rnd : Option Nat} {x : Code}
theorem upto_opt {σ : Type} (hb : ∀ b, rnd = some b → b < n0) (f : Nat → σ → Option σ) (T : Nat → σ → List V) (H : Nat → σ → Heap) (P : Nat → σ → Prop) (n : Nat) {e e1 : Ex} (Te : σ → List V) (He : σ → Heap) (T1 : Nat → σ → List V) (H1 : Nat → σ → Heap) (he : e ≠ .normal) (he1 : e1 ≠ .normal) (a0 : Nat)
    (hstep : ∀ i s s', a0 ≤ i → i < n → P i s → f i s = some s' → P (i + 1) s' ∧ Runs c lim n0 rnd x (T i s) (H i s) .normal (T (i + 1) s') (H (i + 1) s'))
    (hbad : ∀ i s, a0 ≤ i → i < n → P i s → f i s = none → Runs c lim n0 rnd x (T i s) (H i s) e1 (T1 i s) (H1 i s))
    (hend : ∀ s, P n s → Runs c lim n0 rnd x (T n s) (H n s) e (Te s) (He s)) : ∀ k a s, a0 ≤ a → a + k = n → P a s →
      (∃ s', iterO f a k s = some s' ∧ P n s' ∧ Runs c lim n0 rnd (.loop x) (T a s) (H a s) e (Te s') (He s')) ∨ (iterO f a k s = none ∧ ∃ i s', a ≤ i ∧ i < n ∧ P i s' ∧ f i s' = none ∧ Runs c lim n0 rnd (.loop x) (T a s) (H a s) e1 (T1 i s') (H1 i s')) := by
  have key : ∀ k a s, a0 ≤ a → a + k = n → P a s →
      (∃ s', iterO f a k s = some s' ∧ P n s' ∧ ∃ m, Rounds c lim n0 rnd x m (T a s) (H a s) e (Te s') (He s')) ∨ (iterO f a k s = none ∧ ∃ i s', a ≤ i ∧ i < n ∧ P i s' ∧ f i s' = none ∧ ∃ m, Rounds c lim n0 rnd x m (T a s) (H a s) e1 (T1 i s') (H1 i s')) := by
    intro k
    induction k with
    | zero =>
      intro a s h0 ha hp
      obtain rfl : a = n := by omega
      exact .inl ⟨s, rfl, hp, 1, rounds_done (hend s hp) he⟩
    | succ k ih =>
      intro a s h0 ha hp
      simp only [iterO]
      cases hf : f a s with
      | none => exact .inr ⟨rfl, a, s, Nat.le_refl _, by omega, hp, hf, 1, rounds_done (hbad a s h0 (by omega) hp hf) he1⟩
      | some s' =>
        obtain ⟨p1, r1⟩ := hstep a s s' h0 (by omega) hp hf
        rcases ih (a + 1) s' (by omega) (by omega) p1 with ⟨s2, q1, q2, m, q3⟩ | ⟨q1, i, s2, q2, q3, q4, q6, m, q5⟩
        · exact .inl ⟨s2, q1, q2, m + 1, rounds_more hb r1 q3⟩
        · exact .inr ⟨q1, i, s2, by omega, q3, q4, q6, m + 1, rounds_more hb r1 q5⟩
  intro k a s h0 ha hp
  rcases key k a s h0 ha hp with ⟨s2, q1, q2, m, q3⟩ | ⟨q1, i, s2, q2, q3, q4, q6, m, q5⟩
  · exact .inl ⟨s2, q1, q2, runs_loop q3⟩
  · exact .inr ⟨q1, i, s2, q2, q3, q4, q6, runs_loop q5⟩
end
theorem new_row (zs : List Int) (T : TypeId) (own : Own) (hw : (Blk.cells (ints zs) T own).wr = true := by rfl) : ∀ (k : Nat) (X : Blk), ([some (Blk.cells (ints zs) T own)] : Heap)[k]? = some (some X) → X.wr = true ∧ ∃ cs ty own, X = .cells cs ty own ∧ cs.all isRawV = true := fun k X h => by
  match k with
  | 0 =>
    simp only [List.getElem?_cons_zero, Option.some.injEq] at h
    subst h
    exact ⟨hw, _, _, _, rfl, ints_all zs⟩
  | k + 1 => simp at h
def tab (n : Nat) (f : Nat → Int) : List Int := (List.range n).map f
theorem tab_len (n : Nat) (f : Nat → Int) : (tab n f).length = n := by simp [tab]
theorem at_tab {n : Nat} {f : Nat → Int} {k : Nat} (h : k < n) : at' (tab n f) k = f k := by
  simp [at', tab, List.getD, h]
theorem eq_tab {zs : List Int} {n : Nat} {f : Nat → Int} (hl : zs.length = n) (h : ∀ k, k < n → at' zs k = f k) : zs = tab n f :=
  ext_at (by rw [hl, tab_len]) fun j hj => by rw [at_tab (by omega)]; exact h j (by omega)
theorem tab_congr {n : Nat} {f g : Nat → Int} (h : ∀ k, k < n → f k = g k) : tab n f = tab n g := eq_tab (tab_len _ _) fun k hk => by rw [at_tab hk]; exact h k hk
theorem rep_tab (n : Nat) : List.replicate n (0 : Int) = tab n fun _ => 0 := eq_tab (by simp) fun k hk => by simp [at', List.getD, hk]
theorem putI_tab {n : Nat} {f : Nat → Int} {k : Nat} {xs : List Int} (h : k + xs.length ≤ n) : putI (tab n f) k xs = tab n fun j => if k ≤ j ∧ j < k + xs.length then at' xs (j - k) else f j :=
  eq_tab (by rw [putI_len (by rw [tab_len]; exact h), tab_len]) fun j hj => by
    rw [at_putI (by rw [tab_len]; exact h)]
    split
    · rfl
    · exact at_tab hj
theorem all_range {n : Nat} {g : Nat → Bool} (h : (List.range n).all g = true) : ∀ i, i < n → g i = true := fun i hi => List.all_eq_true.1 h i (List.mem_range.2 hi)
end Go.Proofs.YteefjegampdpoaaDoor.E2
end
section
namespace Go.Proofs.YteefjegampdpoaaDoor.E2
open Go Go.RowKit
section
variable {c : Cfg} {lim n0 : Nat} {rnd : Option Nat} {x : Code}
theorem upto_optB {σ : Type} (hb : ∀ b, rnd = some b → b < n0) (f : Nat → σ → Option σ) (T : Nat → σ → List V) (H : Nat → σ → Heap) (P : Nat → σ → Prop) (n : Nat) {e e1 : Ex} (Te : σ → List V) (He : σ → Heap) (B : List V → Heap → Prop) (he : e ≠ .normal) (he1 : e1 ≠ .normal) (a0 : Nat)
    (hstep : ∀ i s s', a0 ≤ i → i < n → P i s → f i s = some s' → P (i + 1) s' ∧ Runs c lim n0 rnd x (T i s) (H i s) .normal (T (i + 1) s') (H (i + 1) s'))
    (hbad : ∀ i s, a0 ≤ i → i < n → P i s → f i s = none → ∃ t h, B t h ∧ Runs c lim n0 rnd x (T i s) (H i s) e1 t h)
    (hend : ∀ s, P n s → Runs c lim n0 rnd x (T n s) (H n s) e (Te s) (He s)) : ∀ k a s, a0 ≤ a → a + k = n → P a s →
      (∃ s', iterO f a k s = some s' ∧ P n s' ∧ Runs c lim n0 rnd (.loop x) (T a s) (H a s) e (Te s') (He s')) ∨ (iterO f a k s = none ∧ ∃ t h, B t h ∧ Runs c lim n0 rnd (.loop x) (T a s) (H a s) e1 t h) := by
  have key : ∀ k a s, a0 ≤ a → a + k = n → P a s →
      (∃ s', iterO f a k s = some s' ∧ P n s' ∧ ∃ m, Rounds c lim n0 rnd x m (T a s) (H a s) e (Te s') (He s')) ∨ (iterO f a k s = none ∧ ∃ t h, B t h ∧ ∃ m, Rounds c lim n0 rnd x m (T a s) (H a s) e1 t h) := by
    intro k
    induction k with
    | zero =>
      intro a s h0 ha hp
      obtain rfl : a = n := by omega
      exact .inl ⟨s, rfl, hp, 1, rounds_done (hend s hp) he⟩
    | succ k ih =>
      intro a s h0 ha hp
      simp only [iterO]
      cases hf : f a s with
      | none =>
        obtain ⟨t, h, hB, hr⟩ := hbad a s h0 (by omega) hp hf
        exact .inr ⟨rfl, t, h, hB, 1, rounds_done hr he1⟩
      | some s' =>
        obtain ⟨p1, r1⟩ := hstep a s s' h0 (by omega) hp hf
        rcases ih (a + 1) s' (by omega) (by omega) p1 with ⟨s2, q1, q2, m, q3⟩ | ⟨q1, t, h, q2, m, q3⟩
        · exact .inl ⟨s2, q1, q2, m + 1, rounds_more hb r1 q3⟩
        · exact .inr ⟨q1, t, h, q2, m + 1, rounds_more hb r1 q3⟩
  intro k a s h0 ha hp
  rcases key k a s h0 ha hp with ⟨s2, q1, q2, m, q3⟩ | ⟨q1, t, h, q2, m, q3⟩
  · exact .inl ⟨s2, q1, q2, runs_loop q3⟩
  · exact .inr ⟨q1, t, h, q2, runs_loop q3⟩
end
end Go.Proofs.YteefjegampdpoaaDoor.E2
end
section
namespace Go.Proofs.YteefjegampdpoaaDoor.E2
open Go Go.RowKit
mutual
theorem V.mv_underN {τ : Nat → Nat} {nl : Nat → Bool} {n m : Nat} (h : ∀ b, b < n → nl b = false → τ b < m) : ∀ x : V, x.under n = true → x.nilOk nl = true → (x.mv τ nl).under m = true
  | .raw v, _, _ => rfl
  | .any k, h, _ => by simp [V.under] at h
  | .ptr b o, hx, hn => by
    simp only [V.under, V.mv, V.nilOk, decide_eq_true_eq, Bool.not_eq_true'] at *
    exact h b hx hn
  | .slo b l, hx, hn => by
    simp only [V.under, decide_eq_true_eq] at hx
    unfold V.mv
    cases hq : nl b with
    | true => rfl
    | false => simp only [V.under, decide_eq_true_eq]; exact h b hx hq
  | .yld b, hx, hn => by
    simp only [V.under, V.mv, V.nilOk, decide_eq_true_eq, Bool.not_eq_true'] at *
    exact h b hx hn
  | .fn f x y, hx, hn => by
    simp only [V.under, V.mv, V.nilOk, Bool.and_eq_true] at *
    exact ⟨mvs_underN h x hx.1 hn.1, mvs_underN h y hx.2 hn.2⟩
  | .agg l, hx, hn => by simp only [V.under, V.mv, V.nilOk] at *; exact mvs_underN h l hx hn
  | .tup l, hx, hn => by simp only [V.under, V.mv, V.nilOk] at *; exact mvs_underN h l hx hn
  | .lit b, _, _ => rfl
theorem mvs_underN {τ : Nat → Nat} {nl : Nat → Bool} {n m : Nat} (h : ∀ b, b < n → nl b = false → τ b < m) : ∀ l : List V, unders n l = true → nilOks nl l = true → unders m (mvs τ nl l) = true
  | [], _, _ => rfl
  | x :: l, hx, hn => by
    simp only [unders, mvs, nilOks, Bool.and_eq_true] at *
    exact ⟨V.mv_underN h x hx.1 hn.1, mvs_underN h l hx.2 hn.2⟩
end
def nilLoc : Loc := ⟨0, [], [], 0, true⟩
def SeenAt (μ : Nat → Nat) (nl : Nat → Bool) (h : Heap) : Nat → Heap → Prop
  | _, [] => True
  | i, X :: H => (∃ cs T, X = some (.cells cs T .ro) ∧ cs.all isRawV = true ∧ ((nl i = false ∧ ∃ o, h[μ i]? = some (some (.cells cs T o))) ∨ (nl i = true ∧ cs = []))) ∧ SeenAt μ nl h (i + 1) H
theorem SeenAt.get {μ : Nat → Nat} {nl : Nat → Bool} {h : Heap} : ∀ {H : Heap} {i0 : Nat}, SeenAt μ nl h i0 H → ∀ (i : Nat) (B : Blk), H[i]? = some (some B) → ∃ cs T, B = .cells cs T .ro ∧ cs.all isRawV = true ∧ ((nl (i0 + i) = false ∧ ∃ o, h[μ (i0 + i)]? = some (some (.cells cs T o))) ∨ (nl (i0 + i) = true ∧ cs = []))
  | [], i0, _, i, B, hB => by simp at hB
  | X :: H, i0, hs, i, B, hB => by
    obtain ⟨⟨cs, T, rfl, h2, h3⟩, hr⟩ := hs
    match i with
    | 0 =>
      simp only [List.getElem?_cons_zero, Option.some.injEq] at hB
      subst hB
      exact ⟨cs, T, rfl, h2, h3⟩
    | i + 1 =>
      simp only [List.getElem?_cons_succ] at hB
      have := SeenAt.get hr i B hB
      rwa [show i0 + 1 + i = i0 + (i + 1) by omega] at this
theorem below_ro {c : Cfg} {lim0 lim : Nat} (hL : c.L = 0) (hG : c.G = []) {f : FuncId} {args : List V} {H N h : Heap} {v : V} (μ : Nat → Nat) (nl : Nat → Bool)
    (hm : Meets c lim0 f args H v (H ++ N)) (hs : SeenAt μ nl h 0 H) (hnl : ∀ i, H.length ≤ i → nl i = false) (hua : unders H.length args = true) (hna : nilOks nl args = true) (hnv : v.nilOk nl = true)
    (hnew : ∀ (k : Nat) (X : Blk), N[k]? = some (some X) → X.wr = true ∧ ∃ cs ty own, X = .cells cs ty own ∧ cs.all isRawV = true) (hlim : lim ≤ h.length) :
    Meets c lim f (mvs μ nl args) h (v.mv (fun k => if k < H.length then μ k else h.length + (k - H.length)) nl) (h ++ N) := by
  intro ρ w RH hu
  have hin : ∀ (i : Nat) (B : Blk), H[i]? = some (some B) → ∃ cs T, B = .cells cs T .ro ∧ cs.all isRawV = true ∧ ((nl i = false ∧ ∃ o, h[μ i]? = some (some (.cells cs T o))) ∨ (nl i = true ∧ cs = [])) := fun i B hB => by
    have := SeenAt.get hs i B hB
    rwa [Nat.zero_add] at this
  have hall : ∀ i, i < H.length → ∃ B, H[i]? = some (some B) := fun i hi => by
    have key : ∀ {H : Heap} {i0 : Nat}, SeenAt μ nl h i0 H → ∀ i, i < H.length → ∃ B, H[i]? = some (some B) := by
      intro H
      induction H with
      | nil => intro i0 _ i hi; simp at hi
      | cons X H ih =>
        intro i0 hs i hi
        obtain ⟨⟨cs, T, rfl, _, _⟩, hr⟩ := hs
        match i with
        | 0 => exact ⟨_, rfl⟩
        | i + 1 => simpa using ih hr i (by simpa using hi)
    exact key hs i hi
  generalize hρ0 : (⟨fun i => if nl i = true then nilLoc else ρ.blk (μ i), ρ.unk⟩ : Ren) = ρ0
  have b0n : ∀ i, nl i = true → ρ0.blk i = nilLoc := fun i hi => by rw [← hρ0]; simp [hi]
  have b0y : ∀ i, nl i = false → ρ0.blk i = ρ.blk (μ i) := fun i hi => by rw [← hρ0]; simp [hi]
  have Mv : Moved μ nl ρ ρ0 := fun i => ⟨fun e => by rw [b0n i e]; rfl, fun e => b0y i e⟩
  have nolw : ∀ i, ¬ lw ρ0 H i := fun i ⟨B, a1, a2, _⟩ => by
    obtain ⟨cs, T, rfl, _⟩ := hin i B a1
    cases a2
  have RH0 : RelH c ρ0 H w := by
    refine ⟨fun i B hB => ?_, fun i j hi hj he => absurd hi (nolw i), fun i B hB => ?_, fun p hp => (by rw [hG] at hp; cases hp), by omega, fun i hi => by omega⟩
    · obtain ⟨cs, T, rfl, hr, ⟨h1, o, h2⟩ | ⟨h1, rfl⟩⟩ := hin i B hB
      · rw [b0y i h1]
        have k := RH.cell _ _ h2
        refine ⟨k.nil, fun hn => ?_, fun sz hq => (by cases hq)⟩
        obtain ⟨fr, q1, _⟩ := k.row hn
        refine ⟨fr, ?_, fun hq => absurd rfl hq⟩
        rw [q1, concs_map, concs_map]
        congr 2
        congr 1
        congr 1
        exact List.map_congr_left fun x hx => by
          have := List.all_eq_true.1 hr x hx
          cases x <;> first | rfl | cases this
      · rw [b0n i h1]
        exact ⟨fun _ => rfl, fun hn => (by cases hn), fun sz hq => (by cases hq)⟩
    · obtain ⟨cs, T, rfl, hr, _⟩ := hin i B hB
      exact unders_raws _ _ hr
  have hargs : concs ρ (mvs μ nl args) = concs ρ0 args := (mvs_conc Mv (by rw [← hρ0]) args hna).symm
  rw [hargs]
  refine (hm _ w RH0 hua).mono fun e w' ⟨ρ1, k1, k2, RH1, F1, k5⟩ => ?_
  generalize hν : (fun i => if i < H.length then μ i else h.length + (i - H.length)) = ν
  have nlow : ∀ i, i < H.length → ν i = μ i := fun i hi => by rw [← hν]; simp [hi]
  have nhigh : ∀ i, H.length ≤ i → ν i = h.length + (i - H.length) := fun i hi => by rw [← hν]; simp; omega
  generalize hρ' : (⟨fun k => if k < h.length then ρ.blk k else ρ1.blk (H.length + (k - h.length)), ρ.unk⟩ : Ren) = ρ'
  have rlow : ∀ k, k < h.length → ρ'.blk k = ρ.blk k := fun k hk => by rw [← hρ']; simp [hk]
  have rhigh : ∀ k, h.length ≤ k → ρ'.blk k = ρ1.blk (H.length + (k - h.length)) := fun k hk => by rw [← hρ']; simp; omega
  have mlt : ∀ i, i < H.length → nl i = false → μ i < h.length := fun i hi hq => by
    obtain ⟨B, hB⟩ := hall i hi
    obtain ⟨cs, T, rfl, _, ⟨_, o, h2⟩ | ⟨h1, _⟩⟩ := hin i B hB
    · exact lt_len h2
    · rw [hq] at h1; cases h1
  have Mv' : Moved ν nl ρ' ρ1 := fun i => by
    rcases Nat.lt_or_ge i H.length with hi | hi
    · refine ⟨fun e => ?_, fun e => ?_⟩
      · rw [F1.ren i hi, b0n i e]; rfl
      · rw [nlow i hi, rlow _ (mlt i hi e), F1.ren i hi, b0y i e]
    · refine ⟨fun e => ?_, fun e => ?_⟩
      · rw [hnl i hi] at e; cases e
      · rw [nhigh i hi, rhigh _ (by omega)]
        congr 1
        omega
  have same : ∀ k, k < w.heap.size → w'.heap[k]? = w.heap[k]? := fun k hk => F1.blk k hk fun i _ hi => absurd hi (nolw i)
  have newB : ∀ (j : Nat) (B : Blk), N[j]? = some (some B) → (H ++ N)[H.length + j]? = some (some B) := fun j B hB => by
    rw [List.getElem?_append_right (by omega), Nat.add_sub_cancel_left]; exact hB
  have frs : ∀ (j : Nat) (B : Blk), N[j]? = some (some B) → (ρ1.blk (H.length + j)).nil = false → w.heap.size ≤ (ρ1.blk (H.length + j)).n := fun j B hB hn => by
    rcases F1.fresh (H.length + j) (by omega) ⟨B, newB j B hB, (hnew j B hB).1, hn⟩ with q | ⟨q, _, q2, _⟩
    · exact q
    · exact absurd q2 (nolw q)
  have split : ∀ (k : Nat) (B : Blk), (h ++ N)[k]? = some (some B) → (k < h.length ∧ h[k]? = some (some B)) ∨ (h.length ≤ k ∧ N[k - h.length]? = some (some B)) := fun k B hB => by
    rcases Nat.lt_or_ge k h.length with q | q
    · rw [List.getElem?_append_left q] at hB; exact .inl ⟨q, hB⟩
    · rw [List.getElem?_append_right q] at hB; exact .inr ⟨q, hB⟩
  have rawU : ∀ (j : Nat) (B : Blk) (n : Nat), N[j]? = some (some B) → B.under n = true := fun j B n hB => by
    obtain ⟨_, cs, ty, own, rfl, hr⟩ := hnew j B hB
    exact unders_raws _ _ hr
  have hlen : (h ++ N).length = h.length + N.length := by simp
  refine ⟨ρ', by rw [← hρ'], by rw [k2, V.mv_conc (ρ := ρ') (ρ' := ρ1) Mv' (by rw [k1, ← hρ', ← hρ0]) v hnv], ⟨fun k B hB => ?_, fun x y hx hy he => ?_, fun k B hB => ?_, fun p hp => (by rw [hG] at hp; cases hp), by omega, fun i hi => by omega⟩, ⟨F1.os, F1.tape, F1.output, F1.size, fun k hk _ => same k hk, rlow, by omega, fun k hk hlwk => ?_, fun k hk hlwk => ?_⟩, ?_⟩
  · rcases split k B hB with ⟨q, h1⟩ | ⟨q, h1⟩
    · rw [rlow k q]
      exact (RH.cell k B h1).move (RH.sco k B h1) rlow fun hn => same _ (RH.lt ⟨B, h1, hn⟩)
    · rw [rhigh k q]
      have k1' := RH1.cell _ B (newB _ B h1)
      obtain ⟨_, cs, ty, own, rfl, hr⟩ := hnew _ B h1
      refine ⟨k1'.nil, fun hn => ?_, k1'.room⟩
      obtain ⟨fr, q1, q2⟩ := k1'.row hn
      refine ⟨fr, ?_, q2⟩
      rw [q1, concs_map, concs_map]
      congr 2
      congr 1
      congr 1
      exact List.map_congr_left fun x hx => by
        have := List.all_eq_true.1 hr x hx
        cases x <;> first | rfl | cases this
  · obtain ⟨B, x1, x2, x3⟩ := hx
    obtain ⟨C, y1, y3⟩ := hy
    rcases split x B x1 with ⟨q, h1⟩ | ⟨q, h1⟩ <;> rcases split y C y1 with ⟨p, g1⟩ | ⟨p, g1⟩
    · rw [rlow x q, rlow y p] at he
      rw [rlow x q] at x3
      rw [rlow y p] at y3
      exact RH.inj x y ⟨B, h1, x2, x3⟩ ⟨C, g1, y3⟩ he
    · exfalso
      rw [rlow x q, rhigh y p] at he
      rw [rlow x q] at x3
      rw [rhigh y p] at y3
      have a := RH.lt ⟨B, h1, x3⟩
      have b := frs _ C g1 y3
      omega
    · exfalso
      rw [rhigh x q, rlow y p] at he
      rw [rhigh x q] at x3
      rw [rlow y p] at y3
      have a := RH.lt ⟨C, g1, y3⟩
      have b := frs _ B h1 x3
      omega
    · rw [rhigh x q, rhigh y p] at he
      rw [rhigh x q] at x3
      rw [rhigh y p] at y3
      have := RH1.inj _ _ ⟨B, newB _ B h1, x2, x3⟩ ⟨C, newB _ C g1, y3⟩ he
      omega
  · rcases split k B hB with ⟨q, h1⟩ | ⟨q, h1⟩
    · exact Blk.under_mono (by omega) B (RH.sco k B h1)
    · exact rawU _ B _ h1
  · obtain ⟨B, x1, x2, x3⟩ := hlwk
    rcases split k B x1 with ⟨q, h1⟩ | ⟨q, h1⟩
    · omega
    · rw [rhigh k q] at x3 ⊢
      exact .inl (frs _ B h1 x3)
  · obtain ⟨B, x1, x2, x3⟩ := hlwk
    rcases split k B x1 with ⟨q, h1⟩ | ⟨q, h1⟩
    · rw [rlow k q] at x3
      exact ⟨B, h1, x2, x3⟩
    · omega
  · have hHN : (H ++ N).length = H.length + N.length := by simp
    rw [hHN] at k5
    rw [hlen]
    refine V.mv_underN (fun b hb hq => ?_) v k5 hnv
    rcases Nat.lt_or_ge b H.length with q | q
    · rw [nlow b q]
      have := mlt b q hq
      omega
    · rw [nhigh b q]
      omega
theorem upto_findB {c : Cfg} {lim n0 : Nat} {rnd : Option Nat} {x : Code} (hb : ∀ b, rnd = some b → b < n0) (good : Nat → Bool) (T : Nat → List V) (H : Nat → Heap) (n : Nat) {e e1 : Ex} {Te : List V} {He : Heap} (B : List V → Heap → Prop) (he : e ≠ .normal) (he1 : e1 ≠ .normal)
    (hstep : ∀ i, i < n → good i = true → Runs c lim n0 rnd x (T i) (H i) .normal (T (i + 1)) (H (i + 1))) (hbad : ∀ i, i < n → good i = false → ∃ t h, B t h ∧ Runs c lim n0 rnd x (T i) (H i) e1 t h) (hend : Runs c lim n0 rnd x (T n) (H n) e Te He) :
    ((List.range n).all good = true ∧ Runs c lim n0 rnd (.loop x) (T 0) (H 0) e Te He) ∨ ((List.range n).all good = false ∧ ∃ t h, B t h ∧ Runs c lim n0 rnd (.loop x) (T 0) (H 0) e1 t h) := by
  have key : ∀ i, ∃ p : List V × Heap, i < n → good i = false → B p.1 p.2 ∧ Runs c lim n0 rnd x (T i) (H i) e1 p.1 p.2 := fun i => by
    by_cases h : i < n ∧ good i = false
    · obtain ⟨t, q, h1, h2⟩ := hbad i h.1 h.2
      exact ⟨(t, q), fun _ _ => ⟨h1, h2⟩⟩
    · exact ⟨([], []), fun h1 h2 => absurd ⟨h1, h2⟩ h⟩
  obtain ⟨f, hf⟩ := Classical.axiomOfChoice key
  rcases upto_find hb good T H n (fun i => (f i).1) (fun i => (f i).2) he he1 hstep (fun i h1 h2 => (hf i h1 h2).2) hend with ⟨h1, h2⟩ | ⟨h1, i, h2, h3, h4, h5⟩
  · exact .inl ⟨h1, h2⟩
  · exact .inr ⟨h1, _, _, (hf i h2 h3).1, h5⟩
end Go.Proofs.YteefjegampdpoaaDoor.E2
end
section
namespace Go.Proofs.YteefjegampdpoaaDoor
open Go Go.RowKit
namespace E2
theorem new_rows2 (zs ws : List Int) (T U : TypeId) (o1 o2 : Own) (h1 : (Blk.cells (ints zs) T o1).wr = true := by rfl) (h2 : (Blk.cells (ints ws) U o2).wr = true := by rfl) : ∀ (k : Nat) (X : Blk), ([some (Blk.cells (ints zs) T o1), some (Blk.cells (ints ws) U o2)] : Heap)[k]? = some (some X) → X.wr = true ∧ ∃ cs ty own, X = .cells cs ty own ∧ cs.all isRawV = true := fun k X h => by
  match k with
  | 0 =>
    simp only [List.getElem?_cons_zero, Option.some.injEq] at h
    subst h
    exact ⟨h1, _, _, _, rfl, ints_all zs⟩
  | 1 =>
    simp only [List.getElem?_cons_succ, List.getElem?_cons_zero, Option.some.injEq] at h
    subst h
    exact ⟨h2, _, _, _, rfl, ints_all ws⟩
  | k + 2 => simp at h
end E2
end Go.Proofs.YteefjegampdpoaaDoor
end
section
namespace Go.Proofs.YteefjegampdpoaaDoor.E2
open Go Go.RowKit
def bools (bs : List Bool) : List V := bs.map fun b => .raw (.bool b)
theorem bools_all (bs : List Bool) : (bools bs).all isRawV = true := by
  rw [List.all_eq_true]
  intro x hx
  obtain ⟨v, _, rfl⟩ := List.mem_map.1 hx
  rfl
end Go.Proofs.YteefjegampdpoaaDoor.E2
end
section
namespace Go.Proofs.YteefjegampdpoaaDoor.K
open Go Go.Deep Go.ChangeShapes Go.WideShapes Go.ChangeAt Go.RowKit
section
variable {H : Type} {enc : TypeId × Value → H} {P : Program}
theorem trod_stays {t : TypeId} (hl : laidOutB P = true) (hr : P.readableRec t = true) (hrow : t < P.types.size) {W W' : World} {v : Value} {d : DataW H} {ps : List MemPlace} {sp : Nat → Bool}
    (h : DataW.Trod enc P W 0 (fun _ => true) true t v d ps) (hb : Below W.heap.size W W') (hlt : ∀ x ∈ ps, x.block < W.heap.size) (hsp : ∀ x ∈ ps, sp x.block = true) :
    DataW.Trod enc P W' 0 sp true t v d ps :=
  WideElems.Trod_stays hl hr hrow h (fun x hx => hb.same (hlt x hx)) hsp
theorem all_stays (hl : laidOutB P = true) {W W' : World} {sp : Nat → Bool} (hb : Below W.heap.size W W') : ∀ (ts : List TypeId) (vs : List Value) (ds : List (DataW H)) (p : List MemPlace),
    (∀ t ∈ ts, P.readableRec t = true ∧ t < P.types.size) → DataW.TrodAll enc P W 0 (fun _ => true) true ts vs ds p → (∀ x ∈ p, x.block < W.heap.size) → (∀ x ∈ p, sp x.block = true) → DataW.TrodAll enc P W' 0 sp true ts vs ds p
  | [], vs, ds, p, _, h, _, _ => by
    obtain ⟨rfl, rfl, rfl⟩ := trodAll_nil h
    exact trodAll_mk0
  | t :: ts, vs, ds, p, hr, h, hlt, hsp => by
    obtain ⟨v0, vs0, d0, ds0, p0, q0, rfl, rfl, rfl, h0, r0⟩ := trodAll_cons h
    have h1 := hr t List.mem_cons_self
    exact trodAll_cons_mk (trod_stays hl h1.1 h1.2 h0 hb (fun x hx => hlt x (List.mem_append_left _ hx)) (fun x hx => hsp x (List.mem_append_left _ hx)))
      (all_stays hl hb ts vs0 ds0 q0 (fun t ht => hr t (List.mem_cons_of_mem _ ht)) r0 (fun x hx => hlt x (List.mem_append_right _ hx)) (fun x hx => hsp x (List.mem_append_right _ hx)))
theorem law_post {f : Func} {s : ChangeSpec} {tb : TypeId} {W W' : World} {args : Array Value} {ds gs : List (DataW H)} {before : List MemPlace}
    (hl : laidOutB P = true) (hrd : ∀ t ∈ f.params.toList, P.readableRec t = true ∧ t < P.types.size) (hrt : f.resultTypes = #[tb]) (hub : P.underlying tb = some .bool) (hv : s.vars = [])
    (hW : DataW.Whole enc P f.params.toList s.vars false W args.toList ds gs before) (hfn : s.fn H (ds ++ gs) = { results := [.lit (.bool true)], args := ds }) (hb : Below W.heap.size W W') :
    s.post enc P f false true false false W args (.bool true) W' := by
  have hW' := hW
  obtain ⟨p, q, hA, hV, rfl, hz, hn⟩ := hW'
  have hlt : ∀ x ∈ p ++ q, x.block < W.heap.size := fun x hx => hW.lt x hx
  rw [hv] at hV
  obtain ⟨rfl, rfl⟩ := trodVars_none hV
  have hargs : ∀ sp : Nat → Bool, (∀ x ∈ p ++ [], sp x.block = true) → DataW.TrodAll enc P W' 0 sp true f.params.toList args.toList (s.fn H (ds ++ [])).args p := fun sp hsp => by
    rw [hfn]
    exact all_stays hl hb _ _ _ _ hrd hA (fun x hx => hlt x (by simpa using hx)) (fun x hx => hsp x (by simpa using hx))
  have hres : ∀ (b : Nat) (sp : Nat → Bool) (hd : Bool), DataW.TrodAll enc P W' b sp hd f.resultTypes.toList ((Value.bool true).resultList f.resultTypes.size) (s.fn H (ds ++ [])).results [] := fun b sp hd => by
    rw [hfn, hrt]
    exact trodAll_cons_mk (shut_bool hub _) trodAll_mk0
  have hvars : ∀ sp : Nat → Bool, DataW.TrodVars enc P W' sp s.vars (s.fn H (ds ++ [])).vars [] := fun sp => by
    rw [hfn, hv]
    rfl
  have hold : ∀ x ∈ p ++ [], (fun b => decide (b < W.heap.size)) x.block = true := fun x hx => by simpa using hlt x hx
  refine ⟨ds, [], p ++ [], [], p, [], hW, hres _ _ _, hargs _ hold, hvars _, World.keptBut_mono (fun x hx => ⟨hx, ?_⟩) (hb.frame (· ∈ p ++ [])), fun _ => ?_⟩
  · rw [List.mem_append] at hx
    exact Or.inr hx
  · refine ⟨?_, _, _, ([] ++ p) ++ [], ⟨[] ++ p, [], trodAll_append (hargs _ (fun _ _ => rfl)) (hres _ _ _), hvars _, rfl, ?_, ?_⟩, ?_⟩
    · exact ok_one hrt rfl (okWide_bool_mk hub _)
    · intro b off hp
      have hin : MemPlace.cell b off ∈ p ++ [] := by simpa using hp
      rw [hb.frozen (hlt _ hin)]
      exact hz b off hin
    · intro ha
      cases ha
    · intro x hx _
      simpa using hx
end
end Go.Proofs.YteefjegampdpoaaDoor.K
end
section
namespace Go.Proofs.YteefjegampdpoaaDoor.K
open Go Go.Deep Go.ChangeShapes Go.WideShapes Go.ChangeAt Go.RowKit
def flatFs (P : Program) (rec : TypeId → Option (List (Option IntKind))) : Nat → List Field → Option (List (Option IntKind))
  | _, [] => some []
  | off, f :: fs => match rec f.type with
    | some l => if f.offset = off ∧ P.cellsOf f.type = l.length then (flatFs P rec (off + l.length) fs).map (l ++ ·) else none
    | none => none
def flatK (P : Program) : Nat → TypeId → Option (List (Option IntKind))
  | 0, _ => none
  | d + 1, t => match P.underlying t with
    | some .bool => some [none]
    | some (.int k) => some [some k]
    | some (.struct fs) => match flatFs P (flatK P d) 0 fs.toList with
      | some l => if l.length = P.cellsOf t then some l else none
      | none => none
    | _ => none
def AllOk : List (Option IntKind) → List Value → Prop
  | [], cs => cs = []
  | some k :: l, cs => ∃ n rest, cs = .int k n :: rest ∧ (Lit.int k n).wf = true ∧ AllOk l rest
  | none :: l, cs => ∃ b rest, cs = .bool b :: rest ∧ AllOk l rest
theorem AllOk.append : ∀ {l m : List (Option IntKind)} {cs ds : List Value}, AllOk l cs → AllOk m ds → AllOk (l ++ m) (cs ++ ds)
  | [], m, cs, ds, h, k => by
    have : cs = [] := h
    subst this; exact k
  | some x :: l, m, cs, ds, h, k => by
    obtain ⟨n, rest, rfl, hw, hr⟩ := h
    exact ⟨n, rest ++ ds, rfl, hw, hr.append k⟩
  | none :: l, m, cs, ds, h, k => by
    obtain ⟨n, rest, rfl, hr⟩ := h
    exact ⟨n, rest ++ ds, rfl, hr.append k⟩
theorem AllOk.length : ∀ {l : List (Option IntKind)} {cs : List Value}, AllOk l cs → cs.length = l.length
  | [], cs, h => by
    have : cs = [] := h
    subst this; rfl
  | some x :: l, cs, h => by
    obtain ⟨n, rest, rfl, hw, hr⟩ := h
    simp [hr.length]
  | none :: l, cs, h => by
    obtain ⟨n, rest, rfl, hr⟩ := h
    simp [hr.length]
section
variable {H : Type} {enc : TypeId × Value → H} {P : Program} {w : World} {base : Nat} {spare : Nat → Bool} {held : Bool}
theorem flat_fields {rec : TypeId → Option (List (Option IntKind))} {n : Nat} (hrec : ∀ t l cs x, rec t = some l → DataW.trod enc P w base spare held n t cs = some x → AllOk l cs) (cs : List Value) :
    ∀ (fs : List Field) (off : Nat) (l : List (Option IntKind)), flatFs P rec off fs = some l → off + l.length ≤ cs.length → (∀ f ∈ fs, ∃ x, DataW.trod enc P w base spare held n f.type ((cs.drop f.offset).take (P.cellsOf f.type)) = some x) → AllOk l ((cs.drop off).take l.length)
  | [], off, l, h, hl, hf => by
    simp only [flatFs, Option.some.injEq] at h
    subst h
    simp [AllOk]
  | f :: fs, off, l, h, hl, hf => by
    simp only [flatFs] at h
    split at h
    · rename_i m hm
      split at h
      · rename_i hh
        obtain ⟨h1, h2⟩ := hh
        rw [Option.map_eq_some_iff] at h
        obtain ⟨k, hk, rfl⟩ := h
        obtain ⟨x, hx⟩ := hf f List.mem_cons_self
        rw [h1, h2] at hx
        have a1 := hrec _ _ _ _ hm hx
        have a2 := flat_fields hrec cs fs (off + m.length) k hk (by simp at hl; omega) (fun g hg => hf g (List.mem_cons_of_mem _ hg))
        have e : (cs.drop off).take (m ++ k).length = (cs.drop off).take m.length ++ (cs.drop (off + m.length)).take k.length := by
          rw [List.length_append, List.take_add, List.drop_drop]
        rw [e]
        exact a1.append a2
      · cases h
    · cases h
theorem flat_cells : ∀ (d : Nat) (fuel : Nat) (t : TypeId) (l : List (Option IntKind)) (cs : List Value) (x : DataW H × List MemPlace), flatK P d t = some l → DataW.trod enc P w base spare held fuel t cs = some x → AllOk l cs
  | 0, fuel, t, l, cs, x, h, hx => by simp [flatK] at h
  | d + 1, fuel, t, l, cs, x, h, hx => by
    simp only [flatK] at h
    split at h
    · rename_i hu
      simp only [Option.some.injEq] at h
      subst h
      cases fuel with
      | zero => simp [DataW.trod] at hx
      | succ m =>
        unfold DataW.trod at hx
        rw [hu] at hx
        split at hx <;> simp_all [AllOk]
    · rename_i k hu
      simp only [Option.some.injEq] at h
      subst h
      cases fuel with
      | zero => simp [DataW.trod] at hx
      | succ m =>
        unfold DataW.trod at hx
        rw [hu] at hx
        split at hx <;> simp_all [AllOk]
    · rename_i fs hu
      split at h
      · rename_i m hm
        split at h
        · rename_i hlen
          simp only [Option.some.injEq] at h
          subst h
          obtain ⟨xs, n, _, rfl, hl, hxl, hf⟩ := DataW.trod_struct hu hx
          have := flat_fields (n := n) (fun t l cs x h1 h2 => flat_cells d n t l cs x h1 h2) cs fs.toList 0 m hm (by omega) (fun f hfm => by
            obtain ⟨i, hi⟩ := List.getElem?_of_mem hfm
            have hlt : i < xs.length := by
              have : i < fs.toList.length := by
                rcases Nat.lt_or_ge i fs.toList.length with k | k
                · exact k
                · rw [List.getElem?_eq_none k] at hi; cases hi
              simp at this
              omega
            exact ⟨xs[i], (hf i f (by simpa using hi)).trans (List.getElem?_eq_getElem hlt)⟩)
          rw [List.drop_zero, List.take_of_length_le (by omega)] at this
          exact this
        · cases h
      · cases h
    · cases h
end
end Go.Proofs.YteefjegampdpoaaDoor.K
end
section
namespace Go.Proofs.YteefjegampdpoaaDoor.K
open Go Go.Deep Go.ChangeShapes Go.WideShapes Go.ChangeAt Go.RowKit
theorem rowAt_le {P : Program} {fits : TypeId → Bool} : ∀ (d : Nat) (e : TypeId) (count off n : Nat), rowAt P fits d e count off n = true → off ≤ count * P.cellsOf e
  | 0, _, _, _, _, h => by simp [rowAt] at h
  | d + 1, e, count, off, n, h => by
    unfold rowAt at h
    dsimp only at h
    split at h
    · cases h
    · rename_i hs
      have e1 : off = off / P.cellsOf e * P.cellsOf e + off % P.cellsOf e := by
        have := Nat.div_add_mod off (P.cellsOf e)
        rw [Nat.mul_comm] at this
        omega
      have hlt : off % P.cellsOf e < P.cellsOf e := Nat.mod_lt _ (by omega)
      rw [Bool.or_eq_true] at h
      rcases h with h | h
      · simp only [Bool.and_eq_true, beq_iff_eq, decide_eq_true_eq] at h
        obtain ⟨⟨h1, h2⟩, _⟩ := h
        have : off / P.cellsOf e * P.cellsOf e ≤ count * P.cellsOf e := Nat.mul_le_mul_right _ (by omega)
        omega
      · simp only [Bool.and_eq_true, decide_eq_true_eq] at h
        have : (off / P.cellsOf e + 1) * P.cellsOf e ≤ count * P.cellsOf e := Nat.mul_le_mul_right _ (by omega)
        rw [Nat.add_mul] at this
        omega
theorem liesAt_le {P : Program} : ∀ (d : Nat) (e : TypeId) (count off : Nat) (u : TypeId) (n : Nat), liesAt P d e count off u n = true → off ≤ count * P.cellsOf e
  | 0, _, _, _, _, _, h => by simp [liesAt] at h
  | d + 1, e, count, off, u, n, h => by
    unfold liesAt at h
    rw [Bool.or_eq_true] at h
    rcases h with h | h
    · exact rowAt_le _ _ _ _ _ h
    · split at h
      · exact liesAt_le d _ _ _ _ _ h
      · cases h
section
variable {H : Type} {enc : TypeId × Value → H} {P : Program} {w : World} {base : Nat} {spare : Nat → Bool} {held : Bool}
end
end Go.Proofs.YteefjegampdpoaaDoor.K
namespace Go.Proofs.YteefjegampdpoaaDoor.E2
open Go Go.RowKit
end Go.Proofs.YteefjegampdpoaaDoor.E2
end
section
namespace Go.Proofs.YteefjegampdpoaaDoor.E2
open Go Go.RowKit
def nz (zs : List Int) (k : Nat) : Bool := !decide (at' zs k = 0)
def cellV (zs : List Int) (b : Bool) (k : Nat) : Value := match b with
  | true => .bool (nz zs k)
  | false => .int .i64 (at' zs k)
def mix (ks : List Bool) (zs : List Int) : List V := (List.range zs.length).map fun k => .raw (cellV zs (ks.getD (k % ks.length) false) k)
theorem mix_all (ks : List Bool) (zs : List Int) : (mix ks zs).all isRawV = true := by
  rw [List.all_eq_true]
  intro x hx
  obtain ⟨k, _, rfl⟩ := List.mem_map.1 hx
  rfl
theorem mix_len (ks : List Bool) (zs : List Int) : (mix ks zs).length = zs.length := by simp [mix]
theorem mix_get (ks : List Bool) (zs : List Int) {k : Nat} (h : k < zs.length) : (mix ks zs)[k]? = some (.raw (cellV zs (ks.getD (k % ks.length) false) k)) := by
  unfold mix
  rw [List.getElem?_map, List.getElem?_range h]
  rfl
theorem load_mix {c : Cfg} {ks : List Bool} {zs : List Int} {T : TypeId} {off : Nat} (n q : Nat) (hT : pureRun c.P (isAgg T) = some true) (hn : pureRun c.P (Go.sizeOf T) = some n) (h0 : 0 < n) (hq : off % ks.length = q) (hk : q + n ≤ ks.length) (h : off + n ≤ zs.length) :
    loadRow c T (mix ks zs) off = some (.raw (.agg ((List.range n).map fun j => cellV zs (ks.getD (q + j) false) (off + j)).toArray)) := by
  unfold loadRow
  rw [hT, hn]
  dsimp only
  rw [if_pos ⟨h0, by rw [mix_len]; exact h⟩]
  have e : List.take n (List.drop off (mix ks zs)) = ((List.range n).map fun j => cellV zs (ks.getD (q + j) false) (off + j)).map V.raw := by
    apply List.ext_getElem?
    intro j
    rw [List.getElem?_take, List.getElem?_map, List.getElem?_map]
    by_cases hj : j < n
    · rw [if_pos hj, List.getElem?_drop, mix_get ks zs (by omega), List.getElem?_range hj]
      have : (off + j) % ks.length = q + j := by
        rw [Nat.add_mod, hq, Nat.mod_eq_of_lt (show j < ks.length by omega), Nat.mod_eq_of_lt (by omega)]
      rw [this]
      rfl
    · rw [if_neg hj, List.getElem?_eq_none (by simp; omega : (List.range n).length ≤ j)]
      rfl
  rw [e]
  unfold mkAgg
  rw [raws_raw]
end Go.Proofs.YteefjegampdpoaaDoor.E2
namespace Go.Proofs.YteefjegampdpoaaDoor.K
open Go Go.Deep Go.ChangeShapes Go.WideShapes Go.ChangeAt Go.RowKit
def numB : Value → Int
  | .int _ z => z
  | .bool b => if b then 1 else 0
  | _ => 0
section
variable {H : Type} {enc : TypeId × Value → H} {P : Program} {w : World} {base : Nat} {spare : Nat → Bool} {held : Bool}
end
end Go.Proofs.YteefjegampdpoaaDoor.K
end
section
namespace Go.Proofs.YteefjegampdpoaaDoor.K
open Go Go.Deep Go.ChangeShapes Go.WideShapes Go.ChangeAt Go.RowKit
section
variable {H : Type} {enc : TypeId × Value → H} {P : Program} {w : World} {base : Nat} {spare : Nat → Bool} {held : Bool} {r : Reach} {b0 : Nat}
end
end Go.Proofs.YteefjegampdpoaaDoor.K
namespace Go.Proofs.YteefjegampdpoaaDoor.E2
open Go Go.RowKit
def RowsAt (ls : List Loc) (H : Heap) (w : World) : Prop := ∀ (i : Nat) (B : Blk), H[i]? = some (some B) → ∃ cs T, B = .cells cs T .ro ∧ cs.all isRawV = true ∧ ∀ ρ, CellsOk ρ (ls.getD i (Loc.at 0)) w cs T .ro
theorem rowsAt_nil {w : World} : RowsAt [] [] w := fun i B h => by simp at h
theorem rowsAt_cons {cs : List V} {T : TypeId} {l : Loc} {ls : List Loc} {H : Heap} {w : World} (ha : cs.all isRawV = true) (h0 : ∀ ρ, CellsOk ρ l w cs T .ro) (hr : RowsAt ls H w) : RowsAt (l :: ls) (some (.cells cs T .ro) :: H) w := fun i B h => by
  match i with
  | 0 =>
    simp only [List.getElem?_cons_zero, Option.some.injEq] at h
    exact ⟨cs, T, h.symm, ha, h0⟩
  | i + 1 => exact hr i B (by simpa using h)
end Go.Proofs.YteefjegampdpoaaDoor.E2
end
namespace Go.Proofs.YteefjegampdpoaaDoor
open Go Go.RowKit Go.Proofs.YteefjegampdpoaaDoor.E2
abbrev lwC (nm : ByteArray) (w g y : Int) (n : Nat) (a b r p q : Int) (k : Nat) : List V := [V.raw (Value.string nm), iV w, iV g, iV y, .slo 0 n, iV a, iV b, iV r, iV p, iV q, .slo 1 k]
abbrev lwA (nm : ByteArray) (w g y : Int) (n : Nat) (a b r p q : Int) (k : Nat) : V := .agg (lwC nm w g y n a b r p q k)
abbrev bkG (gs : List Int) (T : Nat) : Option Blk := some (.cells (mix [false, false, false, false, true] gs) T .ro)
class FlagTo (b q : Bool) (p : outParam Prop) : Prop where
  flg : p → b = q
instance flagTo1 (p : Prop) [Decidable p] : FlagTo (decide p) true p := ⟨decide_eq_true⟩
instance flagTo2 (p : Prop) [Decidable p] : FlagTo (decide p) false (¬ p) := ⟨decide_eq_false⟩
instance flagTo3 (p : Prop) [Decidable p] : FlagTo (!decide p) true (¬ p) := ⟨fun h => by rw [decide_eq_false h]; rfl⟩
instance flagTo4 (p : Prop) [Decidable p] : FlagTo (!decide p) false p := ⟨fun h => by rw [decide_eq_true h]; rfl⟩
theorem flg {b q : Bool} {p : Prop} [i : FlagTo b q p] (h : p) : b = q := i.flg h
abbrev bkI (cs : List Int) (U : Nat) : Option Blk := some (.cells (ints cs) U .ro)
theorem zdl {p : Prop} (h : p := by first | omega | (simp only [ints_len, putI_length, List.length_append, List.length_replicate, List.length_take, List.length_drop, List.length_cons, List.length_nil]; omega) | (simp only [ints_len, putI_length, List.length_append, List.length_replicate, List.length_take, List.length_drop, List.length_cons, List.length_nil]; done)) : p := h
theorem zdf {p : Prop} (h : p := by first | assumption | exact flg (by first | assumption | omega) | (simp_all; done)) : p := h
theorem zdo {p : Prop} (h : p := by first | omega | (simp; omega) | (simp_all; omega)) : p := h
theorem zds {p : Prop} (h : p := by first | assumption | omega | (simp_all; done) | (simp_all; omega)) : p := h
theorem zdr {p : Prop} (h : p := by repeat first | exact ents_nil | refine ents_none ?_ | refine ents_raw (ints_all _) rfl rfl ?_ | refine ents_raw (bools_all _) rfl rfl ?_ | refine ents_raw (mix_all _ _) rfl rfl ?_ | refine ents_say rfl rfl rfl rfl ?_ | refine ents_nilC rfl rfl ?_) : p := h
theorem zk {p : Prop} (h : p := by kernel_rfl) : p := h
theorem zo {p : Prop} (h : p := by omega) : p := h
theorem zn {p : Prop} (h : p := by intro k X h; simp at h) : p := h
theorem zb {a b : Nat} (h : Nat.ble a b = true := by rfl) : a ≤ b := Nat.le_of_ble_eq_true h
theorem zz {n : Nat} : 0 ≤ n := Nat.zero_le n
abbrev zF : Ans := .br false
abbrev zT : Ans := .br true
abbrev zN : Prop := false = false
abbrev zY : Prop := true = true
abbrev pV (x z : Int) : V := V.raw (.agg { toList := [.int .i64 x, .int .i64 z] })
theorem mev {f : FuncId} {args : List V} {H : Heap} {ans : List Ans} {v : V} {h' : Heap} {cons : List Prop} (he : (evFunc cfx 40 f args H 0 ans).map (fun o => (o.v, o.h, o.cons)) = some (v, h', cons)) (hc : Paid cons) : Meets cfx 0 f args H v h' := meets_ev cfx_mixed cfx_call (Nat.zero_le _) (Nat.zero_le _) he hc
theorem fnE {f : FuncId} {args : List V} {ans : List Ans} {v : V} {cons : List Prop} (he : (evFunc cfx 40 f args cfx.H0 cfx.L ans).map (fun o => (o.v, o.cons)) = some (v, cons)) (hua : unders cfx.L args = true) (hv : v.under cfx.L = true) (hc : Paid cons) : Ret cfx f args v := fn_of cfx_mixed cfx_call cfx_base.1 cfx_base.2.1 cfx_base.2.2 he hua hv hc
def anyR : Nat → Nat → List V → List V
  | _, 0, l => l
  | a, n + 1, l => .any a :: anyR (a + 1) n l
def repU : Nat → List V → List V
  | 0, l => l
  | n + 1, l => uV :: repU n l
abbrev catV (a b : List V) : List V := a ++ b
abbrev cbG (T : Nat) : Option Blk := some (.cells [iV 12, iV 0, iV 0, V.raw (.bool true), V.raw (.bool true), V.raw (.bool false), iV 12, iV 7, iV 10, V.raw (.bool true), V.raw (.bool false), V.raw (.bool false), iV 6, iV 0, iV 0, V.raw (.bool true), V.raw (.bool true), V.raw (.bool false), iV 12, iV 0, iV 0, V.raw (.bool false), V.raw (.bool false), V.raw (.bool true)] T .ro)
abbrev bkW (nm : ByteArray) (w g y : Int) (n : Nat) (a b r p q : Int) (k : Nat) : Option Blk := some (.cells (lwC nm w g y n a b r p q k) 29 .rw)
abbrev bkP (x z : Int) : Option Blk := some (.cells [iV x, iV z] 24 .rw)
theorem zt0 {p : Prop} (h : p := by exact fun RT RH => reshape2 (lim := 0) 2 cfx_G rfl [] (by kernel_rfl) (by kernel_rfl) (by exact (ents_raw (mix_all _ _) rfl rfl (ents_raw (ints_all _) rfl rfl (ents_nil)))) RT RH) : p := h
theorem zt1 {p : Prop} (h : p := by exact fun RT RH => reshape2 (lim := 0) 1 cfx_G rfl [] (by kernel_rfl) (by kernel_rfl) (by exact (ents_raw (ints_all _) rfl rfl (ents_nil))) RT RH) : p := h
theorem zt2 {p : Prop} (h : p := by exact fun RT RH => reshape2 (lim := 0) 4 cfx_G rfl [] (by kernel_rfl) (by kernel_rfl) (by exact (ents_raw (mix_all _ _) rfl rfl (ents_raw (ints_all _) rfl rfl (ents_say rfl rfl rfl rfl (ents_raw (ints_all _) rfl rfl (ents_nil)))))) RT RH) : p := h
theorem zt3 {p : Prop} (h : p := by exact fun RT RH => reshape2 (lim := 0) 1 cfx_G rfl [] (by kernel_rfl) (by kernel_rfl) (by exact (ents_raw (mix_all _ _) rfl rfl (ents_nil))) RT RH) : p := h
theorem zt4 {p : Prop} (h : p := by exact fun RT RH => reshape2 (lim := 0) 3 cfx_G rfl [] (by kernel_rfl) (by kernel_rfl) (by exact (ents_raw (mix_all _ _) rfl rfl (ents_raw (ints_all _) rfl rfl (ents_say rfl rfl rfl rfl (ents_nil))))) RT RH) : p := h
theorem zt5 {p : Prop} (h : p := by exact fun RT RH => reshape2 (lim := 0) 2 cfx_G rfl [] (by kernel_rfl) (by kernel_rfl) (by exact (ents_raw (ints_all _) rfl rfl (ents_say rfl rfl rfl rfl (ents_nil)))) RT RH) : p := h
theorem zt6 {p : Prop} (h : p := by exact fun RT RH => reshape2 (lim := 0) 3 cfx_G rfl [] (by kernel_rfl) (by kernel_rfl) (by exact (ents_raw (mix_all _ _) rfl rfl (ents_raw (ints_all _) rfl rfl (ents_raw (ints_all _) rfl rfl (ents_nil))))) RT RH) : p := h
theorem zt7 {p : Prop} (h : p := by exact fun RT RH => reshape2 (lim := 0) 1 cfx_G rfl [] (by kernel_rfl) (by kernel_rfl) (by exact (ents_raw (mix_all _ _) rfl rfl (ents_nil))) RT RH) : p := h
theorem zt8 {p : Prop} (h : p := by exact fun RT RH => reshape2 (lim := 0) 5 cfx_G rfl [] (by kernel_rfl) (by kernel_rfl) (by exact (ents_raw (mix_all _ _) rfl rfl (ents_raw (ints_all _) rfl rfl (ents_say rfl rfl rfl rfl (ents_raw (ints_all _) rfl rfl (ents_say rfl rfl rfl rfl (ents_nil))))))) RT RH) : p := h
end Go.Proofs.YteefjegampdpoaaDoor
section
namespace Go.Proofs.YteefjegampdpoaaDoor.K
open Go Go.Deep Go.ChangeShapes Go.WideShapes Go.ChangeAt Go.RowKit
def tabFs (P : Program) (rec : TypeId → DataW Unit → Option (List Value)) : Nat → List Field → List (DataW Unit) → Option (List Value)
  | _, [], [] => some []
  | off, f :: fs, d :: ds => match rec f.type d with
    | some l => if f.offset = off ∧ P.cellsOf f.type = l.length then (tabFs P rec (off + l.length) fs ds).map (l ++ ·) else none
    | none => none
  | _, _, _ => none
def tabEs (rec : DataW Unit → Option (List Value)) (m : Nat) : List (DataW Unit) → Option (List Value)
  | [] => some []
  | d :: ds => match rec d with
    | some l => if l.length = m then (tabEs rec m ds).map (l ++ ·) else none
    | none => none
def tabK (P : Program) : Nat → TypeId → DataW Unit → Option (List Value)
  | 0, _, _ => none
  | d + 1, t, x => match P.underlying t with
    | some .bool => (match x with
      | .lit (.bool b) => some [.bool b]
      | _ => none)
    | some (.int k) => (match x with
      | .lit (.int k' n) => some [.int k' n]
      | _ => none)
    | some (.struct fs) => (match x with
      | .agg ps => match tabFs P (tabK P d) 0 fs.toList ps with
        | some l => if l.length = P.cellsOf t then some l else none
        | none => none
      | _ => none)
    | some (.array n e) => (match x with
      | .agg ps => if ps.length = n then (match tabEs (tabK P d e) (P.cellsOf e) ps with
        | some l => if l.length = P.cellsOf t then some l else none
        | none => none) else none
      | _ => none)
    | _ => none
section
variable {enc : TypeId × Value → Unit} {P : Program} {w : World} {base : Nat} {spare : Nat → Bool} {held : Bool}
theorem tab_fields {rec : TypeId → DataW Unit → Option (List Value)} {n : Nat} (hrec : ∀ t l cs x, rec t x.1 = some l → DataW.trod enc P w base spare held n t cs = some x → cs = l) (cs : List Value) :
    ∀ (fs : List Field) (xs : List (DataW Unit × List MemPlace)) (off : Nat) (l : List Value), tabFs P rec off fs (xs.map (·.1)) = some l → off + l.length ≤ cs.length → (∀ (i : Nat) (f : Field), fs[i]? = some f → DataW.trod enc P w base spare held n f.type ((cs.drop f.offset).take (P.cellsOf f.type)) = xs[i]?) → (cs.drop off).take l.length = l
  | [], [], off, l, h, hl, hf => by
    simp only [List.map_nil, tabFs, Option.some.injEq] at h
    subst h
    simp
  | [], x :: xs, off, l, h, hl, hf => by simp [tabFs] at h
  | f :: fs, [], off, l, h, hl, hf => by simp [tabFs] at h
  | f :: fs, x :: xs, off, l, h, hl, hf => by
    simp only [List.map_cons, tabFs] at h
    split at h
    · rename_i m hm
      split at h
      · rename_i hh
        obtain ⟨h1, h2⟩ := hh
        rw [Option.map_eq_some_iff] at h
        obtain ⟨k, hk, rfl⟩ := h
        have hx := hf 0 f rfl
        rw [h1, h2, List.getElem?_cons_zero] at hx
        have a1 := hrec _ _ _ _ hm hx
        have a2 := tab_fields hrec cs fs xs (off + m.length) k hk (by simp at hl; omega) (fun i g hg => by simpa using hf (i + 1) g (by simpa using hg))
        rw [List.length_append, List.take_add, a1, List.drop_drop, a2]
      · cases h
    · cases h
theorem tab_elems {rec : DataW Unit → Option (List Value)} {n m : Nat} {e : TypeId} (hrec : ∀ l cs x, rec x.1 = some l → DataW.trod enc P w base spare held n e cs = some x → cs = l) (cs : List Value) :
    ∀ (xs : List (DataW Unit × List MemPlace)) (k : Nat) (l : List Value), tabEs rec m (xs.map (·.1)) = some l → k * m + l.length ≤ cs.length → (∀ i : Nat, i < xs.length → DataW.trod enc P w base spare held n e ((cs.drop ((k + i) * m)).take m) = xs[i]?) → (cs.drop (k * m)).take l.length = l
  | [], k, l, h, hl, hf => by
    simp only [List.map_nil, tabEs, Option.some.injEq] at h
    subst h
    simp
  | x :: xs, k, l, h, hl, hf => by
    simp only [List.map_cons, tabEs] at h
    split at h
    · rename_i y hy
      split at h
      · rename_i hh
        rw [Option.map_eq_some_iff] at h
        obtain ⟨z, hz, rfl⟩ := h
        have hx := hf 0 (by simp)
        rw [Nat.add_zero, List.getElem?_cons_zero] at hx
        have a1 := hrec _ _ _ hy hx
        have e1 : (k + 1) * m = k * m + y.length := by rw [hh, Nat.add_mul, Nat.one_mul]
        have a2 := tab_elems hrec cs xs (k + 1) z hz (by rw [e1]; simp at hl; omega) (fun i hi => by
          have := hf (i + 1) (by simp; omega)
          rw [show k + 1 + i = k + (i + 1) by omega]
          simpa using this)
        rw [List.length_append, List.take_add, hh, a1, List.drop_drop, show k * m + m = (k + 1) * m by rw [e1, hh], a2]
      · cases h
    · cases h
theorem tab_cells : ∀ (d fuel : Nat) (t : TypeId) (l cs : List Value) (x : DataW Unit × List MemPlace), tabK P d t x.1 = some l → DataW.trod enc P w base spare held fuel t cs = some x → cs = l
  | 0, fuel, t, l, cs, x, h, hx => by simp [tabK] at h
  | d + 1, fuel, t, l, cs, x, h, hx => by
    simp only [tabK] at h
    split at h
    · rename_i hu
      cases fuel with
      | zero => simp [DataW.trod] at hx
      | succ m =>
        unfold DataW.trod at hx
        rw [hu] at hx
        split at hx <;> simp_all
        obtain ⟨rfl⟩ := hx
        simp_all
    · rename_i k hu
      obtain ⟨n, rfl, rfl, _⟩ := DataW.trod_int hu hx
      simpa using h
    · rename_i fs hu
      obtain ⟨xs, n, _, rfl, hl, hxl, hf⟩ := DataW.trod_struct hu hx
      simp only at h
      split at h
      · rename_i m hm
        split at h
        · rename_i hlen
          simp only [Option.some.injEq] at h
          subst h
          have := tab_fields (n := n) (fun t l cs x h1 h2 => tab_cells d n t l cs x h1 h2) cs fs.toList xs 0 m hm zo (fun i f hi => hf i f (by simpa using hi))
          rwa [List.drop_zero, List.take_of_length_le zo] at this
        · cases h
      · cases h
    · rename_i n e hu
      obtain ⟨xs, q, _, rfl, hl, hxl, hf⟩ := DataW.trod_array hu hx
      simp only at h
      split at h
      · split at h
        · rename_i m hm
          split at h
          · rename_i hlen
            simp only [Option.some.injEq] at h
            subst h
            have := tab_elems (n := q) (fun l cs x h1 h2 => tab_cells d q e l cs x h1 h2) cs xs 0 m hm (by omega) (fun i hi => by rw [Nat.zero_add]; exact hf i (by omega))
            rwa [Nat.zero_mul, List.drop_zero, List.take_of_length_le zo] at this
          · cases h
        · cases h
      · cases h
    · cases h
end
end Go.Proofs.YteefjegampdpoaaDoor.K
namespace Go.Proofs.YteefjegampdpoaaDoor
open Go Go.RowKit Go.Proofs.YteefjegampdpoaaDoor.E2
noncomputable def cfxg : Cfg := ⟨Tryd.prog, [], 0, [(0, 0)], true, fun f => (Tryd.prog.funcs[f]?).any fun fn => !fn.body.isNone⟩
theorem cfxg_mixed : cfxg.P.follows .mixedOrders = true := cfx_mixed
theorem cfxg_call : ∀ f, cfxg.fns f = true → Callable cfxg.P f := cfx_call
theorem relH_up {ρ : Ren} {h : Heap} {w : World} (R : RelH cfxg ρ h w) : RelH cfx ρ h w := ⟨R.cell, R.inj, R.sco, fun p hp => by simp [cfx] at hp, R.big, R.base⟩
theorem relH_dn {lim n : Nat} {ρ ρ' : Ren} {h h' : Heap} {w w' : World} (R : RelH cfxg ρ h w) (S : RelH cfx ρ' h' w') (F : Fr lim n ρ h w ρ' h' w') (h0 : 0 < n) : RelH cfxg ρ' h' w' :=
  ⟨S.cell, S.inj, S.sco, fun p hp => by
    obtain ⟨a1, a2, a3⟩ := R.glob p hp
    have e : p.2 = 0 := by
      have : p ∈ [(0, 0)] := hp
      rw [List.mem_singleton] at this
      rw [this]
    have e2 : ρ'.blk p.2 = ρ.blk p.2 := F.ren _ zo
    have := F.len
    exact ⟨by rw [e2]; exact a1, by rw [e2]; exact a2, by omega⟩, S.big, S.base⟩
theorem up_meets {lim : Nat} {f : FuncId} {args : List V} {h h' : Heap} {v : V} (hm : Meets cfx lim f args h v h') (h0 : 0 < h.length) : Meets cfxg lim f args h v h' := fun ρ w R hu =>
  Calls.mono (hm ρ w (relH_up R) hu) fun e w' ⟨ρ', h1, h2, h3, h4, h5⟩ => ⟨ρ', h1, h2, relH_dn R h3 h4 h0, h4, h5⟩
theorem up_ret {f : FuncId} {args : List V} {v : V} (hr : Ret cfx f args v) : Ret cfxg f args v := fun h lim hL hl => by
  rcases Nat.eq_zero_or_pos h.length with h0 | h0
  · intro ρ w R
    have := (R.glob _ (List.mem_singleton.2 rfl)).2.2
    omega
  · exact up_meets (hr h lim zz hl) h0
theorem reshape2g {lim : Nat} (n0 : Nat) (h0 : 0 < n0) (ks : List (Option Nat)) {t T : List V} {h H : Heap} (hq : (Nat.ble n0 h.length && Nat.beq H.length (n0 + ks.length) && Nat.ble lim n0 && Nat.beq T.length t.length && (anyOwn 0 T && T.all (·.slotOk H.length) && nilOks (nlOf n0 ks) T) && keysOk lim n0 h.length H ks) = true)
    (hT : mvs (tauOf n0 ks) (nlOf n0 ks) T = hideBy T t) (hE : Paid (entries (tauOf n0 ks) (nlOf n0 ks) h H.length 0 H))
    {ρ : Ren} {a : Act} {w : World} (RT : RelT ρ h.length t a) (RH : RelH cfxg ρ h w) : ∃ ρ', RelT ρ' H.length T a ∧ RelH cfxg ρ' H w ∧ Fr lim n0 ρ h w ρ' H w := by
  obtain ⟨ρ', a1, a2, a3⟩ := reshape2 (c := cfx) (lim := lim) n0 cfx_G rfl ks hq hT hE RT (relH_up RH)
  exact ⟨ρ', a1, relH_dn RH a2 a3 h0, a3⟩
theorem ret_laid {f : FuncId} {v : Value} {cs : List V} {T : TypeId} (hm : Meets cfxg 0 f [] [some (.cells cs T .ro)] (.raw v) [some (.cells cs T .ro)]) (hr : cs.all isRawV = true) {h : Heap} {lim : Nat} (h0 : h[0]? = some (some (.cells cs T .ro))) (hl : lim ≤ h.length) : Meets cfxg lim f [] h (.raw v) h := by
  intro ρ w RH hu
  have only : ∀ (i : Nat) (B : Blk), ([some (.cells cs T .ro)] : Heap)[i]? = some (some B) → i = 0 ∧ B = .cells cs T .ro := fun i B hB => by
    match i with
    | 0 =>
      simp only [List.getElem?_cons_zero, Option.some.injEq] at hB
      exact ⟨rfl, hB.symm⟩
    | i + 1 => simp at hB
  have R0 : RelH cfxg ρ [some (.cells cs T .ro)] w := by
    refine ⟨fun i B hB => ?_, fun i j hi hj he => ?_, fun i B hB => ?_, fun p hp => ?_, Nat.zero_le _, fun i hi => absurd hi (Nat.not_lt_zero _)⟩
    · obtain ⟨rfl, rfl⟩ := only i B hB
      exact RH.cell 0 _ h0
    · obtain ⟨B, a1, a2, a3⟩ := hi
      obtain ⟨rfl, rfl⟩ := only i B a1
      cases a2
    · obtain ⟨rfl, rfl⟩ := only i B hB
      exact unders_raws _ _ hr
    · obtain ⟨a1, a2, a3⟩ := RH.glob p hp
      have : p ∈ [(0, 0)] := hp
      rw [List.mem_singleton] at this
      subst this
      exact ⟨a1, a2, Nat.zero_lt_one⟩
  refine Calls.mono (hm ρ w R0 rfl) fun e w' ⟨ρ1, k1, k2, RH1, F1, k5⟩ => ?_
  have hb : Below w.heap.size w w' := ⟨F1.os, F1.tape, F1.output, F1.size, fun k hk => F1.blk k hk fun i _ h2 => by
    obtain ⟨B, a1, a2, a3⟩ := h2
    obtain ⟨rfl, rfl⟩ := only i B a1
    cases a2⟩
  exact ⟨ρ, rfl, by rw [k2]; rfl, below_rel RH hb.block, below_fr hl hb, rfl⟩
theorem calls_atG {lim : Nat} {f : FuncId} {args : List V} {H H' : Heap} {x : Value} (hm : Meets cfxg lim f args H (.raw x) H') (ls : List E2.Loc) (w : World) (hlen : ls.length = H.length)
    (hg : (ls.getD 0 (E2.Loc.at 0)).n = 0 ∧ (ls.getD 0 (E2.Loc.at 0)).pre = []) (hpos : 0 < H.length) (hro : RowsAt ls H w) (hu : unders H.length args = true) :
    Calls Tryd.prog f (concs ⟨fun i => ls.getD i (E2.Loc.at 0), fun _ => undef⟩ args).toArray w fun e w' => e = .returned x ∧ Below w.heap.size w w' := by
  have R : RelH cfxg ⟨fun i => ls.getD i (E2.Loc.at 0), fun _ => undef⟩ H w := by
    refine ⟨fun i B hB => ?_, fun i j hi hj he => ?_, fun i B hB => ?_, fun p hp => ?_, Nat.zero_le _, fun i hi => absurd hi (Nat.not_lt_zero _)⟩
    · obtain ⟨cs, T, rfl, _, hk⟩ := hro i B hB
      exact hk _
    · obtain ⟨B, a1, a2, a3⟩ := hi
      obtain ⟨cs, T, rfl, _⟩ := hro i B a1
      cases a2
    · obtain ⟨cs, T, rfl, ha, _⟩ := hro i B hB
      exact unders_raws _ _ ha
    · have : p ∈ [(0, 0)] := hp
      rw [List.mem_singleton] at this
      subst this
      exact ⟨hg.1, hg.2, hpos⟩
  refine Calls.mono (hm _ w R hu) fun e w' ⟨ρ', _, he, _, F, _⟩ => ?_
  refine ⟨he, F.os, F.tape, F.output, F.size, fun k hk => F.blk k hk fun i _ h2 => ?_⟩
  obtain ⟨B, a1, a2, a3⟩ := h2
  obtain ⟨cs, T, rfl, _⟩ := hro i B a1
  cases a2
def codesL : List Value := [.int .i64 12, .int .i64 0, .int .i64 0, .bool true, .bool true, .bool false, .int .i64 12, .int .i64 7, .int .i64 10, .bool true, .bool false, .bool false, .int .i64 6, .int .i64 0, .int .i64 0, .bool true, .bool true, .bool false, .int .i64 12, .int .i64 0, .int .i64 0, .bool false, .bool false, .bool true]
theorem codes_at {W : World} (h : laidMetH Tryd.prog Rows.topTouchedRow.laid W) : ∃ T, ∀ ρ, CellsOk ρ (E2.Loc.at 0) W (codesL.map .raw) T .ro := by
  rw [MakeChecks.laidMetH_plain _ _ _ (by kernel_rfl)] at h
  obtain ⟨ps, ⟨g0, t0, cs0, f0, p0, q0, hg0, ht0, hv0, hd0, _⟩, _⟩ := h
  have gT : (Tryd.prog.globals[0]?).map (·.type) = some 217 := by kernel_rfl
  obtain rfl := Option.some.inj ((by kernel_rfl : Tryd.prog.globalNamed _ = some 0).symm.trans hg0)
  obtain rfl := Option.some.inj (gT.symm.trans ht0)
  have e := K.tab_cells (P := Tryd.prog) 9 f0 _ codesL cs0.toList _ zk hd0
  simp only [World.var?, hg0, Option.bind_some] at hv0
  split at hv0
  · rename_i cs T fr hb
    cases hv0
    refine ⟨T, fun ρ => ⟨fun hn => (by cases hn), fun _ => ⟨fr, ?_, fun hq => absurd rfl hq⟩, fun sz hq => (by cases hq)⟩⟩
    rw [concs_raw, ← e]
    show W.heap[0]? = some (.cells ([] ++ cs0.toList ++ []).toArray T fr)
    simpa using hb
  · cases hv0
end Go.Proofs.YteefjegampdpoaaDoor
end
section
namespace Go.Proofs.YteefjegampdpoaaDoor.E2
open Go Go.RowKit
def cellW (zs : List Int) (b : Option IntKind) (k : Nat) : Value := match b with
  | none => .bool (nz zs k)
  | some q => .int q (at' zs k)
def mixk (ks : List (Option IntKind)) (zs : List Int) : List V := (List.range zs.length).map fun k => .raw (cellW zs (ks.getD (k % ks.length) none) k)
theorem mixk_all (ks : List (Option IntKind)) (zs : List Int) : (mixk ks zs).all isRawV = true := by
  rw [List.all_eq_true]
  intro x hx
  obtain ⟨k, _, rfl⟩ := List.mem_map.1 hx
  rfl
theorem mixk_len (ks : List (Option IntKind)) (zs : List Int) : (mixk ks zs).length = zs.length := by simp [mixk]
theorem mixk_get (ks : List (Option IntKind)) (zs : List Int) {k : Nat} (h : k < zs.length) : (mixk ks zs)[k]? = some (.raw (cellW zs (ks.getD (k % ks.length) none) k)) := by
  unfold mixk
  rw [List.getElem?_map, List.getElem?_range h]
  rfl
theorem load_mixk1 {c : Cfg} {ks : List (Option IntKind)} {zs : List Int} {T : TypeId} {off : Nat} (q : Nat) (b : Option IntKind) (hT : pureRun c.P (isAgg T) = some false) (hq : off % ks.length = q) (hb : ks.getD q none = b) (h : off < zs.length) : loadRow c T (mixk ks zs) off = some (.raw (cellW zs b off)) := by
  unfold loadRow
  rw [hT]
  dsimp only
  rw [mixk_get ks zs h, hq, hb]
end Go.Proofs.YteefjegampdpoaaDoor.E2
namespace Go.Proofs.YteefjegampdpoaaDoor.K
open Go Go.Deep Go.ChangeShapes Go.WideShapes Go.ChangeAt Go.RowKit
def cellOkW (b : Option IntKind) (v : Value) : Prop := match b with
  | none => ∃ q, v = .bool q
  | some q => ∃ z, v = .int q z ∧ (Lit.int q z).wf = true
theorem allOk_getW : ∀ (ks : List (Option IntKind)) (cs : List Value), AllOk ks cs → ∀ j, j < ks.length → ∃ v, cs[j]? = some v ∧ cellOkW (ks.getD j none) v
  | [], _, _, j, hj => by simp at hj
  | b :: ks, cs, h, j, hj => by
    have key : ∃ v rest, cs = v :: rest ∧ cellOkW b v ∧ AllOk ks rest := by
      cases b with
      | none =>
        obtain ⟨q, rest, rfl, hr⟩ := h
        exact ⟨_, rest, rfl, ⟨q, rfl⟩, hr⟩
      | some q0 =>
        obtain ⟨z, rest, rfl, hw, hr⟩ := h
        exact ⟨_, rest, rfl, ⟨z, rfl, hw⟩, hr⟩
    obtain ⟨v, rest, rfl, hv, hr⟩ := key
    cases j with
    | zero => exact ⟨v, rfl, hv⟩
    | succ j =>
      obtain ⟨y, h1, h2⟩ := allOk_getW ks rest hr j (by simpa using hj)
      exact ⟨y, by simpa using h1, by simpa using h2⟩
theorem cellW_num {b : Option IntKind} {v : Value} {zs : List Int} {k : Nat} (h : cellOkW b v) (hz : E2.at' zs k = numB v) : E2.cellW zs b k = v := by
  cases b with
  | none =>
    obtain ⟨q, rfl⟩ := h
    show Value.bool (!decide (E2.at' zs k = 0)) = _
    rw [hz]
    cases q <;> rfl
  | some q0 =>
    obtain ⟨z, rfl, _⟩ := h
    show Value.int q0 (E2.at' zs k) = _
    rw [hz]; rfl
section
variable {H : Type} {enc : TypeId × Value → H} {P : Program} {w : World} {base : Nat} {spare : Nat → Bool} {held : Bool}
theorem open_mixk {r : Reach} {b0 : Nat} {t e : TypeId} (ks : List (Option IntKind)) {v : Value} {dd : DataW H} {p : List MemPlace} (hs : P.underlying t = some (.slice e)) (hl : flatK P 9 e = some ks) (hc : P.cellsOf e = ks.length) (hn : 0 < ks.length) (hv : Value.okWide P w r b0 t v) (h : DataW.Trod enc P w base spare held t v dd p) :
    ∃ (l : E2.Loc) (m : Nat) (zs : List Int) (T : TypeId), v = E2.slcOf l m ∧ zs.length = m * ks.length ∧ (∀ k, k < zs.length → ∃ u, cellOkW (ks.getD (k % ks.length) none) u ∧ E2.at' zs k = numB u) ∧ ∀ ρ, E2.CellsOk ρ l w (E2.mixk ks zs) T .ro := by
  generalize hnn : ks.length = n at *
  obtain ⟨a0, len0, cap0, rfl⟩ := okWide_slice hs hv
  obtain ⟨fuel, hf⟩ := h
  rcases DataW.trod_slice hs hf with ⟨h0, _⟩ | ⟨a, len, cap, elems, rest, k, _, h0, _, hb, hlc, hcm, hlen, hel, _, _⟩
  · have : Value.slice a0 len0 cap0 = .slice none 0 0 := by simpa [Value.cells] using h0
    rw [this]
    exact ⟨⟨0, [], [], 0, true⟩, 0, [], 0, rfl, by simp, fun k hk => absurd hk (Nat.not_lt_zero k), fun ρ => ⟨fun _ => rfl, fun hq => (by cases hq), fun sz hq => (by cases hq)⟩⟩
  · have hvv : Value.slice a0 len0 cap0 = .slice (some a) len cap := by simpa [Value.cells] using h0
    rw [hvv] at hv ⊢
    have hok : w.has P r b0 a e cap := by
      unfold Value.okWide at hv
      rw [hs] at hv
      simp only [Cell.okWide, hs, Cell.ok] at hv
      exact hv.2.2
    obtain ⟨_, hspot, row, size, hsh, hlies⟩ := hok
    obtain ⟨c, fr, hblk, rfl⟩ : ∃ c fr, w.heap[a.block]? = some (.cells c row fr) ∧ size = c.size := by
      unfold World.shape? at hsh
      split at hsh
      · rename_i c elem fr hb
        simp only [Option.some.injEq, Prod.mk.injEq] at hsh
        obtain ⟨rfl, rfl⟩ := hsh
        exact ⟨c, fr, hb, rfl⟩
      · cases hsh
    have hoff : a.off ≤ c.size := Nat.le_trans (liesAt_le _ _ _ _ _ _ hlies) (Nat.div_mul_le_self _ _)
    have hcell : ∀ i j, i < len → j < n → ∃ u, c[a.off + (i * n + j)]? = some u ∧ cellOkW (ks.getD j none) u := by
      intro i j hi hj
      have h1 := hel i hi
      rw [List.getElem?_eq_getElem (by omega)] at h1
      obtain ⟨cs, h2, h3⟩ := Option.bind_eq_some_iff.1 h1
      rw [hc] at h2
      obtain ⟨z, h4, h5⟩ := allOk_getW ks cs (flat_cells 9 _ _ _ _ _ hl h3) j (by omega)
      obtain ⟨_, _, h6⟩ := World.cells?_some h2
      have h7 := h6 j hj
      rw [Deep.add_add] at h7
      have h8 : w.cell? (a.add (i * n + j)) = c[a.off + (i * n + j)]? := by
        unfold World.cell? Addr.add
        by_cases hz : i * n + j = 0
        · rw [if_pos hz, hblk, hz]; simp [hspot]
        · rw [if_neg hz]; simp [hblk]
      exact ⟨z, by rw [← h8, h7]; exact h4, h5⟩
    have hat : ∀ k, k < len * n → ∃ u, c[a.off + k]? = some u ∧ cellOkW (ks.getD (k % n) none) u := by
      intro k hk
      have hi : k / n < len := by rw [Nat.div_lt_iff_lt_mul hn]; exact hk
      have := hcell (k / n) (k % n) hi (Nat.mod_lt _ hn)
      have e1 : k / n * n + k % n = k := by
        have := Nat.div_add_mod k n
        rw [Nat.mul_comm] at this
        exact this
      rwa [e1] at this
    have hfit : a.off + len * n ≤ c.size := by
      rcases Nat.eq_zero_or_pos (len * n) with h0 | h0
      · omega
      · obtain ⟨z, hz, _⟩ := hat (len * n - 1) (by omega)
        have := (Array.getElem?_eq_some_iff.1 hz).1
        omega
    generalize hzs : ((c.toList.drop a.off).take (len * n)).map numB = zs
    have hzl : zs.length = len * n := by rw [← hzs]; simp; omega
    have hnum : ∀ k u, k < len * n → c[a.off + k]? = some u → E2.at' zs k = numB u := by
      intro k u hk hu
      rw [← hzs]
      have : (((c.toList.drop a.off).take (len * n)).map numB)[k]? = some (numB u) := by
        rw [List.getElem?_map, List.getElem?_take, if_pos hk, List.getElem?_drop, Array.getElem?_toList, hu]; rfl
      unfold E2.at'
      rw [List.getD_eq_getElem?_getD, this]
      rfl
    refine ⟨⟨a.block, c.toList.take a.off, c.toList.drop (a.off + len * n), cap, false⟩, len, zs, row, ?_, hzl, ?_, fun ρ => ⟨fun hq => (by cases hq), fun _ => ⟨fr, ?_, fun hq => absurd rfl hq⟩, fun sz hq => (by cases hq)⟩⟩
    · unfold E2.slcOf
      rw [if_neg (by simp)]
      have e1 : (c.toList.take a.off).length = a.off := by simp; omega
      simp only [e1]
      cases a with
      | mk b o s => simp only at hspot; subst hspot; rfl
    · intro k hk
      rw [hzl] at hk
      obtain ⟨u, h1, h2⟩ := hat k hk
      exact ⟨u, h2, hnum k u hk h1⟩
    · have e2 : E2.concs ρ (E2.mixk ks zs) = (c.toList.drop a.off).take (len * n) := by
        rw [E2.concs_map]
        apply List.ext_getElem?
        intro k
        rw [List.getElem?_map, List.getElem?_take]
        by_cases hk : k < len * n
        · obtain ⟨u, h1, h2⟩ := hat k hk
          rw [E2.mixk_get ks zs (by omega), if_pos hk, List.getElem?_drop, Array.getElem?_toList, h1, hnn]
          show some (E2.cellW zs _ k) = _
          rw [cellW_num h2 (hnum k u hk h1)]
        · rw [if_neg hk, List.getElem?_eq_none (by rw [E2.mixk_len]; omega)]
          rfl
      rw [e2]
      have e3 : c.toList.take a.off ++ (c.toList.drop a.off).take (len * n) ++ c.toList.drop (a.off + len * n) = c.toList := by
        rw [List.append_assoc, ← List.drop_drop, List.take_append_drop, List.take_append_drop]
      show w.heap[a.block]? = some (.cells (c.toList.take a.off ++ (c.toList.drop a.off).take (len * n) ++ c.toList.drop (a.off + len * n)).toArray row fr)
      rw [e3]
      exact hblk
end
end Go.Proofs.YteefjegampdpoaaDoor.K
end
section
namespace Go.Proofs.YteefjegampdpoaaDoor
open Go Go.RowKit Go.Proofs.YteefjegampdpoaaDoor.E2
def tta_T (ds ms : List Int) (n k : Nat) (rb : Int) (TC TD TM : Nat) (i : Int) (xs ys : List Int) (t u : Nat) : List V := (catV [.slo 1 n, .slo 2 k, V.raw (Value.int IntKind.u16 rb), uV, uV, uV, V.raw (.bool false), .ptr 3 0, V.slo 4 t, V.slo 5 u, iV i] (anyR 11 14 (catV [V.raw (Value.int IntKind.u16 rb), iV rb, iV (rb.tmod 951), pV (rb.tmod 951) 0] (anyR 29 183 []))))
abbrev zq120 : List V := [iV 12, iV 0, iV 0, V.raw (.bool true), V.raw (.bool true), V.raw (.bool false), iV 12, iV 7, iV 10, V.raw (.bool true), V.raw (.bool false), V.raw (.bool false), iV 6, iV 0, iV 0, V.raw (.bool true), V.raw (.bool true), V.raw (.bool false), iV 12, iV 0, iV 0, V.raw (.bool false), V.raw (.bool false), V.raw (.bool true)]
abbrev zq68 : List V := (zq120)
def tta_H (ds ms : List Int) (n k : Nat) (rb : Int) (TC TD TM : Nat) (i : Int) (xs ys : List Int) (t u : Nat) : Heap := [some (.cells (zq68) TC .ro), some (.cells (mixk [some .u16, some .u16] ds) TD .ro), some (.cells (mixk [some .i32, some .i32] ms) TM .ro), some (.cells [iV (rb.tmod 951), iV 0] 56 .rw), some (.cells (ints xs) 65 (Own.row 2)), some (.cells (ints ys) 62 (Own.row 6))]
abbrev zq96 (ds : List Int) (i : Int) (ms : List Int) : List V := [iV ((at' ds (i.toNat * 2)).tdiv 4), iV ((at' ds (i.toNat * 2 + 1)).tdiv 4), iV ((at' ms (i.toNat * 2)).tmod 4194304), iV ((at' ms (i.toNat * 2 + 1)).tmod 4194304), iV 0, iV 0]
theorem tta_1 (ds ms : List Int) (n k : Nat) (rb : Int) (TC TD TM : Nat) (hdl : n * 2 ≤ ds.length) (hml : k * 2 ≤ ms.length) (hrb : 0 ≤ rb ∧ rb ≤ 65535) (hrt : 0 ≤ rb.tmod 951 ∧ rb.tmod 951 ≤ 950) (i : Int) (xs ys : List Int) (t u : Nat) (hi1 : 0 ≤ i) (hi6 : i ≤ 6) (ht : (t : Int) = i) (hu : (u : Int) = i) (hxl : xs.length = t * 2) (hyl : ys.length = u * 6) (hd0 : 0 ≤ at' ds (i.toNat * 2) ∧ at' ds (i.toNat * 2) ≤ 65535) (hdt0 : 0 ≤ (at' ds (i.toNat * 2)).tdiv 4 ∧ (at' ds (i.toNat * 2)).tdiv 4 ≤ 16383) (hm0 : -2147483648 ≤ at' ms (i.toNat * 2) ∧ at' ms (i.toNat * 2) ≤ 2147483647) (hmt0 : -4194303 ≤ (at' ms (i.toNat * 2)).tmod 4194304 ∧ (at' ms (i.toNat * 2)).tmod 4194304 ≤ 4194303) (hd1 : 0 ≤ at' ds (i.toNat * 2 + 1) ∧ at' ds (i.toNat * 2 + 1) ≤ 65535) (hdt1 : 0 ≤ (at' ds (i.toNat * 2 + 1)).tdiv 4 ∧ (at' ds (i.toNat * 2 + 1)).tdiv 4 ≤ 16383) (hm1 : -2147483648 ≤ at' ms (i.toNat * 2 + 1) ∧ at' ms (i.toNat * 2 + 1) ≤ 2147483647) (hmt1 : -4194303 ≤ (at' ms (i.toNat * 2 + 1)).tmod 4194304 ∧ (at' ms (i.toNat * 2 + 1)).tmod 4194304 ≤ 4194303) (f0 : i < (n : Int)) (f1 : i < 6) (f2 : i < (k : Int)) : Runs cfxg 0 4 none (loopOf cfxg.P 4 0) (tta_T ds ms n k rb TC TD TM i xs ys t u) (tta_H ds ms n k rb TC TD TM i xs ys t u) (Ex.normal) (tta_T ds ms n k rb TC TD TM (i + 1) (xs ++ [450, 2946]) (ys ++ [(at' ds (i.toNat * 2)).tdiv 4, (at' ds (i.toNat * 2 + 1)).tdiv 4, (at' ms (i.toNat * 2)).tmod 4194304, (at' ms (i.toNat * 2 + 1)).tmod 4194304, 0, 0]) (t + 1) (u + 1)) (tta_H ds ms n k rb TC TD TM (i + 1) (xs ++ [450, 2946]) (ys ++ [(at' ds (i.toNat * 2)).tdiv 4, (at' ds (i.toNat * 2 + 1)).tdiv 4, (at' ms (i.toNat * 2)).tmod 4194304, (at' ms (i.toNat * 2 + 1)).tmod 4194304, 0, 0]) (t + 1) (u + 1)) := by
  refine Runs.post (t1 := (catV [.slo 1 n, .slo 2 k, V.raw (Value.int IntKind.u16 rb), uV, uV, uV, V.raw (.bool false), .ptr 3 0, .slo 9 (t + 1), .slo 11 (u + 1), iV (i + 1), .ptr 6 0] (anyR 12 13 (catV [V.raw (Value.int IntKind.u16 rb), iV rb, iV (rb.tmod 951), pV (rb.tmod 951) 0, iV i, .slo 1 n, iV (n : Int), V.raw (.bool (decide (i < (n : Int)))), V.lit true, iV i, V.raw (.bool (decide (i < 6))), V.raw (.bool (decide (i < 6))), iV i, iV (i + 1), .slo 1 n, iV i, V.ptr 1 (i.toNat * 2), V.ptr 1 (i.toNat * 2), V.raw (Value.int IntKind.u16 (at' ds (i.toNat * 2))), iV (at' ds (i.toNat * 2)), iV ((at' ds (i.toNat * 2)).tdiv 4), .slo 1 n, iV i, V.ptr 1 (i.toNat * 2), V.ptr 1 (i.toNat * 2 + 1), V.raw (Value.int IntKind.u16 (at' ds (i.toNat * 2 + 1))), iV (at' ds (i.toNat * 2 + 1)), iV ((at' ds (i.toNat * 2 + 1)).tdiv 4), V.raw (.agg { toList := [.int .i64 ((at' ds (i.toNat * 2)).tdiv 4), .int .i64 ((at' ds (i.toNat * 2 + 1)).tdiv 4)] }), V.raw (.agg { toList := [.int .i64 ((at' ds (i.toNat * 2)).tdiv 4), .int .i64 ((at' ds (i.toNat * 2 + 1)).tdiv 4), .int .i64 0, .int .i64 0, .int .i64 0, .int .i64 0] }), iV i, .slo 2 k, iV (k : Int), V.raw (.bool (decide (i < (k : Int)))), .slo 2 k, iV i, V.ptr 2 (i.toNat * 2), V.ptr 2 (i.toNat * 2), V.raw (Value.int IntKind.i32 (at' ms (i.toNat * 2))), iV (at' ms (i.toNat * 2)), iV ((at' ms (i.toNat * 2)).tmod 4194304), .slo 2 k, iV i, V.ptr 2 (i.toNat * 2), V.ptr 2 (i.toNat * 2 + 1), V.raw (Value.int IntKind.i32 (at' ms (i.toNat * 2 + 1))), iV (at' ms (i.toNat * 2 + 1)), iV ((at' ms (i.toNat * 2 + 1)).tmod 4194304), V.raw (.agg { toList := [.int .i64 ((at' ms (i.toNat * 2)).tmod 4194304), .int .i64 ((at' ms (i.toNat * 2 + 1)).tmod 4194304)] }), .ptr 6 2, .slo 4 t, pV 450 2946, .slo 8 1, .slo 9 (t + 1), .slo 5 u, V.raw (.agg { toList := [.int .i64 ((at' ds (i.toNat * 2)).tdiv 4), .int .i64 ((at' ds (i.toNat * 2 + 1)).tdiv 4), .int .i64 ((at' ms (i.toNat * 2)).tmod 4194304), .int .i64 ((at' ms (i.toNat * 2 + 1)).tmod 4194304), .int .i64 0, .int .i64 0] }), .slo 10 1, .slo 11 (u + 1)] (anyR 83 129 []))))) (h1 := [some (.cells (zq68) TC .ro), some (.cells (mixk [some .u16, some .u16] ds) TD .ro), some (.cells (mixk [some .i32, some .i32] ms) TM .ro), some (.cells [iV (rb.tmod 951), iV 0] 56 .rw), none, none, some (.cells (zq96 ds i ms) 62 .rw), some (.cells [iV 450, iV 2946] 65 .rw), some (.cells [iV 450, iV 2946] 65 (.row 2)), some (.cells (ints (xs ++ [450, 2946])) 65 (.row 2)), some (.cells (zq96 ds i ms) 62 (.row 6)), some (.cells (ints (ys ++ [(at' ds (i.toNat * 2)).tdiv 4, (at' ds (i.toNat * 2 + 1)).tdiv 4, (at' ms (i.toNat * 2)).tmod 4194304, (at' ms (i.toNat * 2 + 1)).tmod 4194304, 0, 0])) 62 (.row 6))]) (body_of cfxg_mixed cfxg_call zz (rnd := none) (fi := 0) (k := 0) (n := 40) (n0 := 4) (ans := [zT, zT, zT, Ans.olds [(17, 12)], Ans.val 1 (V.raw (Value.int IntKind.u16 (at' ds (i.toNat * 2)))), Ans.val 1 (V.raw (Value.int IntKind.u16 (at' ds (i.toNat * 2 + 1)))), zT, Ans.olds [(16, 12)], Ans.val 2 (V.raw (Value.int IntKind.i32 (at' ms (i.toNat * 2)))), Ans.val 2 (V.raw (Value.int IntKind.i32 (at' ms (i.toNat * 2 + 1)))), Ans.go, Ans.cells 9 (ints (xs ++ [450, 2946])), Ans.cells 11 (ints (ys ++ [(at' ds (i.toNat * 2)).tdiv 4, (at' ds (i.toNat * 2 + 1)).tdiv 4, (at' ms (i.toNat * 2)).tmod 4194304, (at' ms (i.toNat * 2 + 1)).tmod 4194304, 0, 0]))]) (cons := [(decide (i < (n : Int)) = true), zY, (decide (i < 6) = true), (0 ≤ i ∧ i < (n : Int)), (loadRow cfxg 54 (mixk [some .u16, some .u16] ds) (i.toNat * 2) = some (V.raw (Value.int IntKind.u16 (at' ds (i.toNat * 2))))), (inR IntKind.i64 (at' ds (i.toNat * 2))), ((4 : Int) ≠ (0 : Int)), (inR IntKind.i64 ((at' ds (i.toNat * 2)).tdiv 4)), (0 ≤ i ∧ i < (n : Int)), (loadRow cfxg 54 (mixk [some .u16, some .u16] ds) (i.toNat * 2 + 1) = some (V.raw (Value.int IntKind.u16 (at' ds (i.toNat * 2 + 1))))), (inR IntKind.i64 (at' ds (i.toNat * 2 + 1))), ((4 : Int) ≠ (0 : Int)), (inR IntKind.i64 ((at' ds (i.toNat * 2 + 1)).tdiv 4)), (decide (i < (k : Int)) = true), (0 ≤ i ∧ i < (k : Int)), ((0 : Int) ≤ (0 : Int) ∧ (0 : Int) < (2 : Int)), (loadRow cfxg 21 (mixk [some .i32, some .i32] ms) (i.toNat * 2) = some (V.raw (Value.int IntKind.i32 (at' ms (i.toNat * 2))))), (inR IntKind.i64 (at' ms (i.toNat * 2))), ((4194304 : Int) ≠ (0 : Int)), (0 ≤ i ∧ i < (k : Int)), ((0 : Int) ≤ (1 : Int) ∧ (1 : Int) < (2 : Int)), (loadRow cfxg 21 (mixk [some .i32, some .i32] ms) (i.toNat * 2 + 1) = some (V.raw (Value.int IntKind.i32 (at' ms (i.toNat * 2 + 1))))), (inR IntKind.i64 (at' ms (i.toNat * 2 + 1))), ((4194304 : Int) ≠ (0 : Int)), (1 ≤ 9223372036854775807), (1 * 2 ≤ List.length ([iV 450, iV 2946] : List V)), (oneCells (List.take (1 * 2) ([iV 450, iV 2946] : List V)) = true), (List.length ((ints xs) : List V) = t * 2), (t + 1 ≤ maxLen ∧ (t + 1) * 16 ≤ 140737488355328), (((ints xs) : List V) ++ (List.take (1 * 2) ([iV 450, iV 2946] : List V)) = (ints (xs ++ [450, 2946]))), (1 ≤ 9223372036854775807), (1 * 6 ≤ List.length ((zq96 ds i ms) : List V)), (oneCells (List.take (1 * 6) ((zq96 ds i ms) : List V)) = true), (List.length ((ints ys) : List V) = u * 6), (u + 1 ≤ maxLen ∧ (u + 1) * 48 ≤ 140737488355328), (((ints ys) : List V) ++ (List.take (1 * 6) ((zq96 ds i ms) : List V)) = (ints (ys ++ [(at' ds (i.toNat * 2)).tdiv 4, (at' ds (i.toNat * 2 + 1)).tdiv 4, (at' ms (i.toNat * 2)).tmod 4194304, (at' ms (i.toNat * 2 + 1)).tmod 4194304, 0, 0]))), (inR IntKind.i64 (i + 1))]) zk
    ⟨zdo, rfl, zdo, (by omega), (load_mixk1 0 (some .u16) (by kernel_rfl) (by show _ % 2 = 0; omega) rfl (by omega)), inR_i64 (by omega) (by omega), zds, inR_i64 (by omega) (by omega), (by omega), (load_mixk1 1 (some .u16) (by kernel_rfl) (by show _ % 2 = 1; omega) rfl (by omega)), inR_i64 (by omega) (by omega), zds, inR_i64 (by omega) (by omega), zdo, (by omega), (by omega), (load_mixk1 0 (some .i32) (by kernel_rfl) (by show _ % 2 = 0; omega) rfl (by omega)), inR_i64 (by omega) (by omega), zds, (by omega), (by omega), (load_mixk1 1 (some .i32) (by kernel_rfl) (by show _ % 2 = 1; omega) rfl (by omega)), inR_i64 (by omega) (by omega), zds, zds, zdl, (by first | exact ones_take _ _ | rfl), zdl, (by unfold maxLen; constructor <;> omega), (by first | rfl | exact app_lit _ _ rfl | exact app_row _ _ _ | exact row_row0 _ _ | exact app_row0 _ _), zds, zdl, (by first | exact ones_take _ _ | rfl), zdl, (by unfold maxLen; constructor <;> omega), (by first | rfl | exact app_lit _ _ rfl | exact app_row _ _ _ | exact row_row0 _ _ | exact app_row0 _ _), inR_i64 (by omega) (by omega), trivial⟩ (Nat.le_of_ble_eq_true rfl) (Nat.le_of_ble_eq_true rfl) noRnd (noRanges (by kernel_rfl))) (fun RT RH => reshape2g (lim := 0) 4 (by decide) [some 9, some 11] (by kernel_rfl) (by kernel_rfl) (by exact (ents_say rfl rfl rfl rfl (ents_raw (mixk_all _ _) rfl rfl (ents_raw (mixk_all _ _) rfl rfl (ents_say rfl rfl rfl rfl (ents_raw (ints_all _) rfl rfl (ents_raw (ints_all _) rfl rfl (ents_nil)))))))) RT RH)
abbrev zq110 (ds : List Int) (i : Int) : List V := [iV ((at' ds (i.toNat * 2)).tdiv 4), iV ((at' ds (i.toNat * 2 + 1)).tdiv 4), iV 0, iV 0, iV 0, iV 0]
theorem tta_2 (ds ms : List Int) (n k : Nat) (rb : Int) (TC TD TM : Nat) (hdl : n * 2 ≤ ds.length) (hml : k * 2 ≤ ms.length) (hrb : 0 ≤ rb ∧ rb ≤ 65535) (hrt : 0 ≤ rb.tmod 951 ∧ rb.tmod 951 ≤ 950) (i : Int) (xs ys : List Int) (t u : Nat) (hi1 : 0 ≤ i) (hi6 : i ≤ 6) (ht : (t : Int) = i) (hu : (u : Int) = i) (hxl : xs.length = t * 2) (hyl : ys.length = u * 6) (hd0 : 0 ≤ at' ds (i.toNat * 2) ∧ at' ds (i.toNat * 2) ≤ 65535) (hdt0 : 0 ≤ (at' ds (i.toNat * 2)).tdiv 4 ∧ (at' ds (i.toNat * 2)).tdiv 4 ≤ 16383) (hm0 : -2147483648 ≤ at' ms (i.toNat * 2) ∧ at' ms (i.toNat * 2) ≤ 2147483647) (hmt0 : -4194303 ≤ (at' ms (i.toNat * 2)).tmod 4194304 ∧ (at' ms (i.toNat * 2)).tmod 4194304 ≤ 4194303) (hd1 : 0 ≤ at' ds (i.toNat * 2 + 1) ∧ at' ds (i.toNat * 2 + 1) ≤ 65535) (hdt1 : 0 ≤ (at' ds (i.toNat * 2 + 1)).tdiv 4 ∧ (at' ds (i.toNat * 2 + 1)).tdiv 4 ≤ 16383) (hm1 : -2147483648 ≤ at' ms (i.toNat * 2 + 1) ∧ at' ms (i.toNat * 2 + 1) ≤ 2147483647) (hmt1 : -4194303 ≤ (at' ms (i.toNat * 2 + 1)).tmod 4194304 ∧ (at' ms (i.toNat * 2 + 1)).tmod 4194304 ≤ 4194303) (f0 : i < (n : Int)) (f1 : i < 6) (f2 : ¬i < (k : Int)) : Runs cfxg 0 4 none (loopOf cfxg.P 4 0) (tta_T ds ms n k rb TC TD TM i xs ys t u) (tta_H ds ms n k rb TC TD TM i xs ys t u) (Ex.normal) (tta_T ds ms n k rb TC TD TM (i + 1) (xs ++ [450, 2946]) (ys ++ [(at' ds (i.toNat * 2)).tdiv 4, (at' ds (i.toNat * 2 + 1)).tdiv 4, 0, 0, 0, 0]) (t + 1) (u + 1)) (tta_H ds ms n k rb TC TD TM (i + 1) (xs ++ [450, 2946]) (ys ++ [(at' ds (i.toNat * 2)).tdiv 4, (at' ds (i.toNat * 2 + 1)).tdiv 4, 0, 0, 0, 0]) (t + 1) (u + 1)) := by
  refine Runs.post (t1 := (catV [.slo 1 n, .slo 2 k, V.raw (Value.int IntKind.u16 rb), uV, uV, uV, V.raw (.bool false), .ptr 3 0, .slo 9 (t + 1), .slo 11 (u + 1), iV (i + 1), .ptr 6 0] (anyR 12 13 (catV [V.raw (Value.int IntKind.u16 rb), iV rb, iV (rb.tmod 951), pV (rb.tmod 951) 0, iV i, .slo 1 n, iV (n : Int), V.raw (.bool (decide (i < (n : Int)))), V.lit true, iV i, V.raw (.bool (decide (i < 6))), V.raw (.bool (decide (i < 6))), iV i, iV (i + 1), .slo 1 n, iV i, V.ptr 1 (i.toNat * 2), V.ptr 1 (i.toNat * 2), V.raw (Value.int IntKind.u16 (at' ds (i.toNat * 2))), iV (at' ds (i.toNat * 2)), iV ((at' ds (i.toNat * 2)).tdiv 4), .slo 1 n, iV i, V.ptr 1 (i.toNat * 2), V.ptr 1 (i.toNat * 2 + 1), V.raw (Value.int IntKind.u16 (at' ds (i.toNat * 2 + 1))), iV (at' ds (i.toNat * 2 + 1)), iV ((at' ds (i.toNat * 2 + 1)).tdiv 4), V.raw (.agg { toList := [.int .i64 ((at' ds (i.toNat * 2)).tdiv 4), .int .i64 ((at' ds (i.toNat * 2 + 1)).tdiv 4)] }), V.raw (.agg { toList := [.int .i64 ((at' ds (i.toNat * 2)).tdiv 4), .int .i64 ((at' ds (i.toNat * 2 + 1)).tdiv 4), .int .i64 0, .int .i64 0, .int .i64 0, .int .i64 0] }), iV i, .slo 2 k, iV (k : Int), V.raw (.bool (decide (i < (k : Int))))] (anyR 59 16 (catV [.slo 4 t, pV 450 2946, .slo 8 1, .slo 9 (t + 1), .slo 5 u, V.raw (.agg { toList := [.int .i64 ((at' ds (i.toNat * 2)).tdiv 4), .int .i64 ((at' ds (i.toNat * 2 + 1)).tdiv 4), .int .i64 0, .int .i64 0, .int .i64 0, .int .i64 0] }), .slo 10 1, .slo 11 (u + 1)] (anyR 83 129 []))))))) (h1 := [some (.cells (zq68) TC .ro), some (.cells (mixk [some .u16, some .u16] ds) TD .ro), some (.cells (mixk [some .i32, some .i32] ms) TM .ro), some (.cells [iV (rb.tmod 951), iV 0] 56 .rw), none, none, some (.cells (zq110 ds i) 62 .rw), some (.cells [iV 450, iV 2946] 65 .rw), some (.cells [iV 450, iV 2946] 65 (.row 2)), some (.cells (ints (xs ++ [450, 2946])) 65 (.row 2)), some (.cells (zq110 ds i) 62 (.row 6)), some (.cells (ints (ys ++ [(at' ds (i.toNat * 2)).tdiv 4, (at' ds (i.toNat * 2 + 1)).tdiv 4, 0, 0, 0, 0])) 62 (.row 6))]) (body_of cfxg_mixed cfxg_call zz (rnd := none) (fi := 0) (k := 0) (n := 40) (n0 := 4) (ans := [zT, zT, zT, Ans.olds [(17, 12)], Ans.val 1 (V.raw (Value.int IntKind.u16 (at' ds (i.toNat * 2)))), Ans.val 1 (V.raw (Value.int IntKind.u16 (at' ds (i.toNat * 2 + 1)))), zF, Ans.go, Ans.cells 9 (ints (xs ++ [450, 2946])), Ans.cells 11 (ints (ys ++ [(at' ds (i.toNat * 2)).tdiv 4, (at' ds (i.toNat * 2 + 1)).tdiv 4, 0, 0, 0, 0]))]) (cons := [(decide (i < (n : Int)) = true), zY, (decide (i < 6) = true), (0 ≤ i ∧ i < (n : Int)), (loadRow cfxg 54 (mixk [some .u16, some .u16] ds) (i.toNat * 2) = some (V.raw (Value.int IntKind.u16 (at' ds (i.toNat * 2))))), (inR IntKind.i64 (at' ds (i.toNat * 2))), ((4 : Int) ≠ (0 : Int)), (inR IntKind.i64 ((at' ds (i.toNat * 2)).tdiv 4)), (0 ≤ i ∧ i < (n : Int)), (loadRow cfxg 54 (mixk [some .u16, some .u16] ds) (i.toNat * 2 + 1) = some (V.raw (Value.int IntKind.u16 (at' ds (i.toNat * 2 + 1))))), (inR IntKind.i64 (at' ds (i.toNat * 2 + 1))), ((4 : Int) ≠ (0 : Int)), (inR IntKind.i64 ((at' ds (i.toNat * 2 + 1)).tdiv 4)), (decide (i < (k : Int)) = false), (1 ≤ 9223372036854775807), (1 * 2 ≤ List.length ([iV 450, iV 2946] : List V)), (oneCells (List.take (1 * 2) ([iV 450, iV 2946] : List V)) = true), (List.length ((ints xs) : List V) = t * 2), (t + 1 ≤ maxLen ∧ (t + 1) * 16 ≤ 140737488355328), (((ints xs) : List V) ++ (List.take (1 * 2) ([iV 450, iV 2946] : List V)) = (ints (xs ++ [450, 2946]))), (1 ≤ 9223372036854775807), (1 * 6 ≤ List.length ((zq110 ds i) : List V)), (oneCells (List.take (1 * 6) ((zq110 ds i) : List V)) = true), (List.length ((ints ys) : List V) = u * 6), (u + 1 ≤ maxLen ∧ (u + 1) * 48 ≤ 140737488355328), (((ints ys) : List V) ++ (List.take (1 * 6) ((zq110 ds i) : List V)) = (ints (ys ++ [(at' ds (i.toNat * 2)).tdiv 4, (at' ds (i.toNat * 2 + 1)).tdiv 4, 0, 0, 0, 0]))), (inR IntKind.i64 (i + 1))]) zk
    ⟨zdo, rfl, zdo, (by omega), (load_mixk1 0 (some .u16) (by kernel_rfl) (by show _ % 2 = 0; omega) rfl (by omega)), inR_i64 (by omega) (by omega), zds, inR_i64 (by omega) (by omega), (by omega), (load_mixk1 1 (some .u16) (by kernel_rfl) (by show _ % 2 = 1; omega) rfl (by omega)), inR_i64 (by omega) (by omega), zds, inR_i64 (by omega) (by omega), zdo, zds, zdl, (by first | exact ones_take _ _ | rfl), zdl, (by unfold maxLen; constructor <;> omega), (by first | rfl | exact app_lit _ _ rfl | exact app_row _ _ _ | exact row_row0 _ _ | exact app_row0 _ _), zds, zdl, (by first | exact ones_take _ _ | rfl), zdl, (by unfold maxLen; constructor <;> omega), (by first | rfl | exact app_lit _ _ rfl | exact app_row _ _ _ | exact row_row0 _ _ | exact app_row0 _ _), inR_i64 (by omega) (by omega), trivial⟩ (Nat.le_of_ble_eq_true rfl) (Nat.le_of_ble_eq_true rfl) noRnd (noRanges (by kernel_rfl))) (fun RT RH => reshape2g (lim := 0) 4 (by decide) [some 9, some 11] (by kernel_rfl) (by kernel_rfl) (by exact (ents_say rfl rfl rfl rfl (ents_raw (mixk_all _ _) rfl rfl (ents_raw (mixk_all _ _) rfl rfl (ents_say rfl rfl rfl rfl (ents_raw (ints_all _) rfl rfl (ents_raw (ints_all _) rfl rfl (ents_nil)))))))) RT RH)
abbrev zq11 (n : Nat) (k : Nat) (rb : Int) (t : Nat) (u : Nat) (i : Int) : List V := (catV [.slo 1 n, .slo 2 k, V.raw (Value.int IntKind.u16 rb), uV, uV, uV, V.raw (.bool false), .ptr 3 0, .slo 4 t, .slo 5 u, iV i] (anyR 11 14 (catV [V.raw (Value.int IntKind.u16 rb), iV rb, iV (rb.tmod 951), pV (rb.tmod 951) 0] (anyR 29 183 []))))
def tta_T3 (ds ms : List Int) (n k : Nat) (rb : Int) (TC TD TM : Nat) (i : Int) (xs ys : List Int) (t u : Nat) : List V := (zq11 n k rb t u i)
abbrev zq46 (TC : Nat) (ds : List Int) (TD : Nat) (ms : List Int) (TM : Nat) (rb : Int) (xs : List Int) (ys : List Int) : Heap := [some (.cells (zq120) TC .ro), some (.cells (mixk [some .u16, some .u16] ds) TD .ro), some (.cells (mixk [some .i32, some .i32] ms) TM .ro), some (.cells [iV (rb.tmod 951), iV 0] 56 .rw), some (.cells (ints xs) 65 (.row 2)), some (.cells (ints ys) 62 (.row 6))]
def tta_H3 (ds ms : List Int) (n k : Nat) (rb : Int) (TC TD TM : Nat) (i : Int) (xs ys : List Int) (t u : Nat) : Heap := (zq46 TC ds TD ms TM rb xs ys)
theorem tta_3 (ds ms : List Int) (n k : Nat) (rb : Int) (TC TD TM : Nat) (hdl : n * 2 ≤ ds.length) (hml : k * 2 ≤ ms.length) (hrb : 0 ≤ rb ∧ rb ≤ 65535) (hrt : 0 ≤ rb.tmod 951 ∧ rb.tmod 951 ≤ 950) (i : Int) (xs ys : List Int) (t u : Nat) (hi1 : 0 ≤ i) (hi6 : i ≤ 6) (ht : (t : Int) = i) (hu : (u : Int) = i) (hxl : xs.length = t * 2) (hyl : ys.length = u * 6) (hd0 : 0 ≤ at' ds (i.toNat * 2) ∧ at' ds (i.toNat * 2) ≤ 65535) (hdt0 : 0 ≤ (at' ds (i.toNat * 2)).tdiv 4 ∧ (at' ds (i.toNat * 2)).tdiv 4 ≤ 16383) (hm0 : -2147483648 ≤ at' ms (i.toNat * 2) ∧ at' ms (i.toNat * 2) ≤ 2147483647) (hmt0 : -4194303 ≤ (at' ms (i.toNat * 2)).tmod 4194304 ∧ (at' ms (i.toNat * 2)).tmod 4194304 ≤ 4194303) (hd1 : 0 ≤ at' ds (i.toNat * 2 + 1) ∧ at' ds (i.toNat * 2 + 1) ≤ 65535) (hdt1 : 0 ≤ (at' ds (i.toNat * 2 + 1)).tdiv 4 ∧ (at' ds (i.toNat * 2 + 1)).tdiv 4 ≤ 16383) (hm1 : -2147483648 ≤ at' ms (i.toNat * 2 + 1) ∧ at' ms (i.toNat * 2 + 1) ≤ 2147483647) (hmt1 : -4194303 ≤ (at' ms (i.toNat * 2 + 1)).tmod 4194304 ∧ (at' ms (i.toNat * 2 + 1)).tmod 4194304 ≤ 4194303) (f0 : i < (n : Int)) (f1 : ¬i < 6) : Runs cfxg 0 4 none (loopOf cfxg.P 4 0) (tta_T ds ms n k rb TC TD TM i xs ys t u) (tta_H ds ms n k rb TC TD TM i xs ys t u) (Ex.exit 0) (tta_T3 ds ms n k rb TC TD TM i xs ys t u) (tta_H3 ds ms n k rb TC TD TM i xs ys t u) := by
  refine Runs.post (t1 := (catV [.slo 1 n, .slo 2 k, V.raw (Value.int IntKind.u16 rb), uV, uV, uV, V.raw (.bool false), .ptr 3 0, .slo 4 t, .slo 5 u, iV i] (anyR 11 14 (catV [V.raw (Value.int IntKind.u16 rb), iV rb, iV (rb.tmod 951), pV (rb.tmod 951) 0, iV i, .slo 1 n, iV (n : Int), V.raw (.bool (decide (i < (n : Int)))), V.lit true, iV i, V.raw (.bool (decide (i < 6))), V.raw (.bool (decide (i < 6)))] (anyR 37 175 []))))) (h1 := (zq46 TC ds TD ms TM rb xs ys)) (body_of cfxg_mixed cfxg_call zz (rnd := none) (fi := 0) (k := 0) (n := 40) (n0 := 4) (ans := [zT, zT, zF]) (cons := [(decide (i < (n : Int)) = true), zY, (decide (i < 6) = false)]) zk
    ⟨zdo, rfl, zdo, trivial⟩ zb zb noRnd (noRanges zk)) (fun RT RH => reshape2g (lim := 0) 4 (by decide) [some 4, some 5] zk zk (by exact (ents_say rfl rfl rfl rfl (ents_raw (mixk_all _ _) rfl rfl (ents_raw (mixk_all _ _) rfl rfl (ents_say rfl rfl rfl rfl (ents_raw (ints_all _) rfl rfl (ents_raw (ints_all _) rfl rfl (ents_nil)))))))) RT RH)
def tta_T4 (ds ms : List Int) (n k : Nat) (rb : Int) (TC TD TM : Nat) (i : Int) (xs ys : List Int) (t u : Nat) : List V := (zq11 n k rb t u i)
def tta_H4 (ds ms : List Int) (n k : Nat) (rb : Int) (TC TD TM : Nat) (i : Int) (xs ys : List Int) (t u : Nat) : Heap := (zq46 TC ds TD ms TM rb xs ys)
theorem tta_4 (ds ms : List Int) (n k : Nat) (rb : Int) (TC TD TM : Nat) (hdl : n * 2 ≤ ds.length) (hml : k * 2 ≤ ms.length) (hrb : 0 ≤ rb ∧ rb ≤ 65535) (hrt : 0 ≤ rb.tmod 951 ∧ rb.tmod 951 ≤ 950) (i : Int) (xs ys : List Int) (t u : Nat) (hi1 : 0 ≤ i) (hi6 : i ≤ 6) (ht : (t : Int) = i) (hu : (u : Int) = i) (hxl : xs.length = t * 2) (hyl : ys.length = u * 6) (hd0 : 0 ≤ at' ds (i.toNat * 2) ∧ at' ds (i.toNat * 2) ≤ 65535) (hdt0 : 0 ≤ (at' ds (i.toNat * 2)).tdiv 4 ∧ (at' ds (i.toNat * 2)).tdiv 4 ≤ 16383) (hm0 : -2147483648 ≤ at' ms (i.toNat * 2) ∧ at' ms (i.toNat * 2) ≤ 2147483647) (hmt0 : -4194303 ≤ (at' ms (i.toNat * 2)).tmod 4194304 ∧ (at' ms (i.toNat * 2)).tmod 4194304 ≤ 4194303) (hd1 : 0 ≤ at' ds (i.toNat * 2 + 1) ∧ at' ds (i.toNat * 2 + 1) ≤ 65535) (hdt1 : 0 ≤ (at' ds (i.toNat * 2 + 1)).tdiv 4 ∧ (at' ds (i.toNat * 2 + 1)).tdiv 4 ≤ 16383) (hm1 : -2147483648 ≤ at' ms (i.toNat * 2 + 1) ∧ at' ms (i.toNat * 2 + 1) ≤ 2147483647) (hmt1 : -4194303 ≤ (at' ms (i.toNat * 2 + 1)).tmod 4194304 ∧ (at' ms (i.toNat * 2 + 1)).tmod 4194304 ≤ 4194303) (f0 : ¬i < (n : Int)) : Runs cfxg 0 4 none (loopOf cfxg.P 4 0) (tta_T ds ms n k rb TC TD TM i xs ys t u) (tta_H ds ms n k rb TC TD TM i xs ys t u) (Ex.exit 0) (tta_T4 ds ms n k rb TC TD TM i xs ys t u) (tta_H4 ds ms n k rb TC TD TM i xs ys t u) := by
  refine Runs.post (t1 := (catV [.slo 1 n, .slo 2 k, V.raw (Value.int IntKind.u16 rb), uV, uV, uV, V.raw (.bool false), .ptr 3 0, .slo 4 t, .slo 5 u, iV i] (anyR 11 14 (catV [V.raw (Value.int IntKind.u16 rb), iV rb, iV (rb.tmod 951), pV (rb.tmod 951) 0, iV i, .slo 1 n, iV (n : Int), V.raw (.bool (decide (i < (n : Int)))), V.lit false, uV, uV, V.raw (.bool false)] (anyR 37 175 []))))) (h1 := (zq46 TC ds TD ms TM rb xs ys)) (body_of cfxg_mixed cfxg_call zz (rnd := none) (fi := 0) (k := 0) (n := 40) (n0 := 4) (ans := [zF, zF, zF]) (cons := [(decide (i < (n : Int)) = false), zN, zN]) zk
    ⟨zdo, rfl, rfl, trivial⟩ zb zb noRnd (noRanges zk)) (fun RT RH => reshape2g (lim := 0) 4 (by decide) [some 4, some 5] zk zk (by exact (ents_say rfl rfl rfl rfl (ents_raw (mixk_all _ _) rfl rfl (ents_raw (mixk_all _ _) rfl rfl (ents_say rfl rfl rfl rfl (ents_raw (ints_all _) rfl rfl (ents_raw (ints_all _) rfl rfl (ents_nil)))))))) RT RH)
end Go.Proofs.YteefjegampdpoaaDoor
end
section
namespace Go.Proofs.YteefjegampdpoaaDoor.E.R
open Go Go.RowKit
inductive Item where
  | val (v : Value)
  | new (T : TypeId) (z : Array Value)
  | put (k : Nat) (cs : Array Value)
  | old (b : Nat) (T : TypeId) (cs : Array Value)
  | skip
def Item.value (β : Nat → Nat) (i : Nat) : Item → Value
  | .val v => v
  | .new _ _ => .pointer (some ⟨β i, 0, none⟩)
  | _ => undef
structure Rewrites (w w' : World) (b : Nat) (T : TypeId) (cs : Array Value) : Prop where
  os : w'.os = w.os
  tape : w'.tape = w.tape
  output : w'.output = w.output
  size : w'.heap.size = w.heap.size
  block : ∀ k, k ≠ b → w'.heap[k]? = w.heap[k]?
  this : w'.heap[b]? = some (.cells cs T (0, 0))
def known (ops : Array Oper) (its : List Item) (a0 : Act) (o : Oper) (s : Nat) : Option Value :=
  match (List.range ops.size).find? (fun j => (ops[j]?.bind (·.dst)) == some s) with
  | none => a0.tmps[s]?
  | some j => if o.after.toList.any (fun e => Region.binds .any e && e.on == j) then (match its[j]? with | some (.val v) => some v | _ => none) else none
def Env (ops : Array Oper) (its : List Item) (a0 : Act) (o : Oper) (a : Act) : Prop := ∀ s v, known ops its a0 o s = some v → a.tmps[s]? = some v
def waitsFor (ops : Array Oper) (j i : Nat) : Bool := match ops[j]? with | some o => o.after.toList.any (fun e => Region.binds .any e && e.on == i) | none => false
def isOld (ops : Array Oper) (its : List Item) (i b : Nat) : Bool := (List.range its.length).any fun j => match its[j]? with | some (.old b' _ _) => b' == b && !waitsFor ops j i | _ => false
structure Kept (blk : Nat → Bool) (w0 w : World) : Prop where
  os : w.os = w0.os
  tape : w.tape = w0.tape
  output : w.output = w0.output
  size : w0.heap.size ≤ w.heap.size
  block : ∀ b, b < w0.heap.size → blk b = false → w.heap[b]? = w0.heap[b]?
def StepOk (P : Program) (Q : Exit → Act → World → Prop) (ops : Array Oper) (its : List Item) (a0 : Act) (w0 : World) (i : Nat) (o : Oper) : Item → Prop
  | .val v => ∀ (a : Act) (w : World) (K : Act → World → Prop), Env ops its a0 o a → Kept (isOld ops its i) w0 w → (∀ w', Below w.heap.size w w' → K (a.put o.dst v) w') → o.wp P a w K Q
  | .new T z => ∀ (a : Act) (w : World) (K : Act → World → Prop), Env ops its a0 o a → Kept (isOld ops its i) w0 w → K (a.put o.dst (.pointer (some ⟨w.heap.size, 0, none⟩))) (w.alloc (.cells z T)) → o.wp P a w K Q
  | .put k cs => ∀ (T : TypeId) (z : Array Value), its[k]? = some (.new T z) → ∀ (a : Act) (w : World) (K : Act → World → Prop) (b : Nat) (cs0 : Array Value) (d : Nat), Env ops its a0 o a → Kept (isOld ops its i) w0 w →
      (ops[k]?.bind (·.dst)) = some d → a.tmps[d]? = some (.pointer (some ⟨b, 0, none⟩)) → w.heap[b]? = some (.cells cs0 T (0, 0)) → cs0.size = z.size →
      (∀ w', Rewrites w w' b T cs → K (a.put o.dst undef) w') → o.wp P a w K Q
  | .skip => True
  | .old b T cs => ∀ (a : Act) (w : World) (K : Act → World → Prop) (cs0 : Array Value), Env ops its a0 o a → Kept (isOld ops its i) w0 w → w.heap[b]? = w0.heap[b]? →
      w.heap[b]? = some (.cells cs0 T (0, 0)) → cs0.size = cs.size →
      (∀ w', Rewrites w w' b T cs → K (a.put o.dst undef) w') → o.wp P a w K Q
def isSkip : Item → Bool
  | .skip => true
  | _ => false
def guardOk (ops : Array Oper) (its : List Item) (o : Oper) (it : Item) : Bool :=
  match o.guard with
  | none => !isSkip it
  | some (j, want) => o.after.toList.any (fun e => Region.binds .any e && e.on == j) &&
    (match ops[j]?, its[j]? with
      | some p, some (.val (.bool b)) => p.dst.isSome && ((b == want) != isSkip it)
      | _, _ => false)
def shape (ops : Array Oper) (its : List Item) (n : Nat) : Bool :=
  (its.length == ops.size) &&
  ((List.range ops.size).all fun i => match ops[i]?, its[i]? with
    | some o, some it => (o.after.all fun e => !Region.binds .any e || decide (e.on < i)) &&
      (match it with
        | .val _ => true
        | .skip => true
        | .new _ _ => o.dst.isSome
        | .put k _ => o.dst.isNone && o.after.any (fun e => Region.binds .any e && e.on == k) && (match its[k]? with | some (.new _ _) => true | _ => false)
        | .old _ _ _ => o.dst.isNone) &&
      (match o.dst with | some d => decide (d < n) | none => true) &&
      ((List.range ops.size).all fun j => i == j || match ops[j]?, its[j]? with
        | some p, some jt => (o.dst.isNone || o.dst != p.dst) &&
          (match it, jt with
            | .put k _, .put k' _ => k != k'
            | _, _ => true)
        | _, _ => false)
    | _, _ => false)
structure Inv (ops : Array Oper) (its : List Item) (a0 : Act) (w0 : World) (β : Nat → Nat) (listed : Array Bool) (a : Act) (w : World) : Prop where
  len : listed.size = ops.size
  defers : a.defers = a0.defers
  tsize : a.tmps.size = a0.tmps.size
  done : ∀ (i : Nat) (o : Oper) (it : Item) (d : Nat), ops[i]? = some o → its[i]? = some it → listed[i]? = some true → o.dst = some d → a.tmps[d]? = some (it.value β i)
  rest : ∀ k, (∀ (i : Nat) (o : Oper), ops[i]? = some o → listed[i]? = some true → o.dst ≠ some k) → a.tmps[k]? = a0.tmps[k]?
  kept : Kept (isOld ops its ops.size) w0 w
  closed : ∀ (i : Nat) (o : Oper), ops[i]? = some o → listed[i]? = some true → ∀ e ∈ o.after, Region.binds .any e = true → listed[e.on]? = some true
  news : ∀ (i : Nat) (T : TypeId) (z : Array Value), its[i]? = some (.new T z) → listed[i]? = some true → w0.heap.size ≤ β i ∧ β i < w.heap.size ∧ ∃ cs, w.heap[β i]? = some (.cells cs T (0, 0)) ∧ cs.size = z.size
  apart : ∀ (i j : Nat) (T T' : TypeId) (z z' : Array Value), its[i]? = some (.new T z) → its[j]? = some (.new T' z') → listed[i]? = some true → listed[j]? = some true → i ≠ j → β i ≠ β j
  puts : ∀ (i k : Nat) (cs : Array Value) (T : TypeId) (z : Array Value), its[i]? = some (.put k cs) → its[k]? = some (.new T z) → listed[i]? = some true → listed[k]? = some true → w.heap[β k]? = some (.cells cs T (0, 0))
  olds : ∀ (i b : Nat) (T : TypeId) (cs : Array Value), its[i]? = some (.old b T cs) → listed[i]? = some true → w.heap[b]? = some (.cells cs T (0, 0))
  behind : ∀ (i k : Nat) (cs : Array Value), its[i]? = some (.put k cs) → listed[i]? = some true → listed[k]? = some true
  waits : ∀ (i b : Nat) (T : TypeId) (cs : Array Value), its[i]? = some (.old b T cs) → listed[i]? = some false → w.heap[b]? = w0.heap[b]?
theorem lookL {listed : Array Bool} {i j : Nat} (h : (listed.setIfInBounds i true)[j]? = some true) (hne : j ≠ i) : listed[j]? = some true := by
  rwa [Array.getElem?_setIfInBounds_ne (Ne.symm hne)] at h
theorem listed_set {listed : Array Bool} {i j : Nat} (h : listed[j]? = some true) : (listed.setIfInBounds i true)[j]? = some true := by
  rcases Nat.decEq j i with hne | rfl
  · rwa [Array.getElem?_setIfInBounds_ne (Ne.symm hne)]
  · have : j < listed.size := by
      rcases Nat.lt_or_ge j listed.size with hlt | hge
      · exact hlt
      · rw [Array.getElem?_eq_none hge] at h; cases h
    simp [this]
theorem put_other {a : Act} {d k : Nat} {v : Value} (h : d ≠ k) : (a.put (some d) v).tmps[k]? = a.tmps[k]? := by
  simp [Act.put, Array.getElem?_setIfInBounds_ne h]
theorem put_this {a : Act} {d : Nat} {v : Value} (h : d < a.tmps.size) : (a.put (some d) v).tmps[d]? = some v := by
  simp [Act.put, h]
theorem put_size {a : Act} {d : Option Tmp} {v : Value} : (a.put d v).tmps.size = a.tmps.size := by
  cases d <;> simp [Act.put]
theorem put_defers {a : Act} {d : Option Tmp} {v : Value} : (a.put d v).defers = a.defers := by
  cases d <;> simp [Act.put]
def olds : List Item → List Nat
  | [] => []
  | .old b _ _ :: r => b :: olds r
  | _ :: r => olds r
theorem olds_mem {b : Nat} : ∀ (its : List Item) (j : Nat) (T : TypeId) (cs : Array Value), its[j]? = some (.old b T cs) → b ∈ olds its := by
  intro its
  induction its with
  | nil => intro j T cs h; simp at h
  | cons x l ih =>
    intro j T cs h
    cases j with
    | zero =>
      simp only [List.getElem?_cons_zero, Option.some.injEq] at h
      subst h
      simp [olds]
    | succ j =>
      simp only [List.getElem?_cons_succ] at h
      have := ih j T cs h
      cases x <;> simp [olds, this]
theorem olds_once {b : Nat} : ∀ (its : List Item), (olds its).Nodup → ∀ (i j : Nat) (T T' : TypeId) (cs cs' : Array Value), its[i]? = some (.old b T cs) → its[j]? = some (.old b T' cs') → i = j := by
  intro its
  induction its with
  | nil => intro _ i j T T' cs cs' h; simp at h
  | cons x l ih =>
    intro hn i j T T' cs cs' hi hj
    have hl : (olds l).Nodup := by
      cases x <;> simp only [olds, List.nodup_cons] at hn <;> first | exact hn | exact hn.2
    cases i with
    | zero =>
      cases j with
      | zero => rfl
      | succ j =>
        simp only [List.getElem?_cons_zero, Option.some.injEq] at hi
        subst hi
        simp only [olds, List.nodup_cons] at hn
        exact absurd (olds_mem l j T' cs' (by simpa using hj)) hn.1
    | succ i =>
      cases j with
      | zero =>
        simp only [List.getElem?_cons_zero, Option.some.injEq] at hj
        subst hj
        simp only [olds, List.nodup_cons] at hn
        exact absurd (olds_mem l i T cs (by simpa using hi)) hn.1
      | succ j => rw [ih hl i j T T' cs cs' (by simpa using hi) (by simpa using hj)]
structure Shape (ops : Array Oper) (its : List Item) (n : Nat) : Prop where
  len : its.length = ops.size
  guard : ∀ (i : Nat) (o : Oper) (it : Item), ops[i]? = some o → its[i]? = some it → guardOk ops its o it = true
  back : ∀ (i : Nat) (o : Oper), ops[i]? = some o → ∀ e ∈ o.after, Region.binds .any e = true → e.on < i
  lt : ∀ (i : Nat) (o : Oper) (d : Nat), ops[i]? = some o → o.dst = some d → d < n
  once : ∀ (i j : Nat) (o p : Oper) (d : Nat), ops[i]? = some o → ops[j]? = some p → o.dst = some d → p.dst = some d → i = j
  newDst : ∀ (i : Nat) (o : Oper) (T : TypeId) (z : Array Value), ops[i]? = some o → its[i]? = some (.new T z) → ∃ d, o.dst = some d
  putDst : ∀ (i : Nat) (o : Oper) (k : Nat) (cs : Array Value), ops[i]? = some o → its[i]? = some (.put k cs) → o.dst = none ∧ (∃ e ∈ o.after, Region.binds .any e = true ∧ e.on = k) ∧ ∃ T z, its[k]? = some (.new T z)
  oldDst : ∀ (i : Nat) (o : Oper) (b : Nat) (T : TypeId) (cs : Array Value), ops[i]? = some o → its[i]? = some (.old b T cs) → o.dst = none
  putOnce : ∀ (i j k : Nat) (cs cs' : Array Value), its[i]? = some (.put k cs) → its[j]? = some (.put k cs') → i = j
  oldOnce : ∀ (i j b : Nat) (T T' : TypeId) (cs cs' : Array Value), its[i]? = some (.old b T cs) → its[j]? = some (.old b T' cs') → i = j
theorem Shape.of {ops : Array Oper} {its : List Item} {n : Nat} (h : shape ops its n = true) (hg : ∀ (i : Nat) (o : Oper) (it : Item), ops[i]? = some o → its[i]? = some it → guardOk ops its o it = true) (hnd : (olds its).Nodup) : Shape ops its n := by
  unfold shape at h
  rw [Bool.and_eq_true, beq_iff_eq, List.all_eq_true] at h
  obtain ⟨hl, ha⟩ := h
  have key : ∀ (i : Nat) (o : Oper) (it : Item), ops[i]? = some o → its[i]? = some it → _ := fun i o it ho hi => by
    have hlt : i < ops.size := by
      rcases Nat.lt_or_ge i ops.size with h | h
      · exact h
      · rw [Array.getElem?_eq_none h] at ho; cases ho
    have := ha i (List.mem_range.2 hlt)
    simp only [ho, hi] at this
    exact this
  have itm : ∀ (i : Nat) (o : Oper), ops[i]? = some o → ∃ it, its[i]? = some it := fun i o ho => by
    have hlt : i < ops.size := by
      rcases Nat.lt_or_ge i ops.size with h | h
      · exact h
      · rw [Array.getElem?_eq_none h] at ho; cases ho
    exact ⟨its[i]'(by omega), List.getElem?_eq_getElem (by omega)⟩
  have opm : ∀ (i : Nat) (it : Item), its[i]? = some it → ∃ o, ops[i]? = some o := fun i it hi => by
    have hlt : i < its.length := by
      rcases Nat.lt_or_ge i its.length with h | h
      · exact h
      · rw [List.getElem?_eq_none h] at hi; cases hi
    exact ⟨ops[i]'(by omega), Array.getElem?_eq_getElem (by omega)⟩
  have pair : ∀ (i j : Nat) (o p : Oper) (it jt : Item), ops[i]? = some o → its[i]? = some it → ops[j]? = some p → its[j]? = some jt → i ≠ j →
      ((o.dst.isNone || o.dst != p.dst) && (match it, jt with
            | .put k _, .put k' _ => k != k'
            | _, _ => true)) = true := fun i j o p it jt ho hi hp hj hne => by
    have h1 := key i o it ho hi
    rw [Bool.and_eq_true, List.all_eq_true] at h1
    have hlt : j < ops.size := by
      rcases Nat.lt_or_ge j ops.size with h | h
      · exact h
      · rw [Array.getElem?_eq_none h] at hp; cases hp
    have h2 := h1.2 j (List.mem_range.2 hlt)
    rw [Bool.or_eq_true, beq_iff_eq] at h2
    rcases h2 with h2 | h2
    · exact absurd h2 hne
    · simp only [hp, hj] at h2
      exact h2
  refine ⟨hl, hg, fun i o ho e he hbind => ?_, fun i o d ho hd => ?_, fun i j o p d ho hp hd hd' => ?_, fun i o T z ho hi => ?_, fun i o k cs ho hi => ?_, fun i o b T cs ho hi => ?_, fun i j k cs cs' hi hj => ?_, fun i j b T T' cs cs' hi hj => ?_⟩
  · obtain ⟨it, hi⟩ := itm i o ho
    have := key i o it ho hi
    simp only [Bool.and_eq_true] at this
    have h2 := this.1.1.1
    rw [Array.all_eq_true'] at h2
    have h3 := h2 e he
    rw [hbind] at h3
    simpa using h3
  · obtain ⟨it, hi⟩ := itm i o ho
    have := key i o it ho hi
    simp only [Bool.and_eq_true, hd, decide_eq_true_eq] at this
    exact this.1.2
  · obtain ⟨it, hi⟩ := itm i o ho
    obtain ⟨jt, hj⟩ := itm j p hp
    rcases Nat.decEq i j with hne | he
    · have := pair i j o p it jt ho hi hp hj hne
      simp [hd, hd'] at this
    · exact he
  · have := key i o _ ho hi
    simp only [Bool.and_eq_true] at this
    exact Option.isSome_iff_exists.1 this.1.1.2
  · have := key i o _ ho hi
    simp only [Bool.and_eq_true, Option.isNone_iff_eq_none] at this
    obtain ⟨⟨⟨_, ⟨h1, h2⟩, h3⟩, _⟩, _⟩ := this
    refine ⟨h1, ?_, ?_⟩
    · rw [Array.any_eq_true'] at h2
      obtain ⟨e, he, h2⟩ := h2
      rw [Bool.and_eq_true, beq_iff_eq] at h2
      exact ⟨e, he, h2.1, h2.2⟩
    · cases hk : its[k]? with
      | none => simp [hk] at h3
      | some it => cases it <;> simp [hk] at h3; exact ⟨_, _, rfl⟩
  · have := key i o _ ho hi
    simp only [Bool.and_eq_true, Option.isNone_iff_eq_none] at this
    exact this.1.1.2
  · obtain ⟨o, ho⟩ := opm i _ hi
    obtain ⟨p, hp⟩ := opm j _ hj
    rcases Nat.decEq i j with hne | he
    · have := pair i j o p _ _ ho hi hp hj hne
      simp at this
    · exact he
  · exact olds_once its hnd i j T T' cs cs' hi hj
theorem itm_lt {ops : Array Oper} {i : Nat} {o : Oper} (h : ops[i]? = some o) : i < ops.size := by
  rcases Nat.lt_or_ge i ops.size with hlt | hge
  · exact hlt
  · rw [Array.getElem?_eq_none hge] at h; cases h
theorem ready_spec {ops : Array Oper} {listed : Array Bool} {i : Nat} (hlen : listed.size = ops.size) (h : i ∈ Region.ready .any ops listed) :
    ∃ o, ops[i]? = some o ∧ listed[i]? = some false ∧ ∀ e ∈ o.after, Region.binds .any e = true → listed[e.on]? = some true := by
  unfold Region.ready at h
  rw [List.mem_filter, List.mem_range, Bool.and_eq_true] at h
  obtain ⟨hlt, hl, ha⟩ := h
  have ho : ops[i]? = some (ops[i]'hlt) := Array.getElem?_eq_getElem hlt
  refine ⟨_, ho, ?_, fun e he hb => ?_⟩
  · have hl2 : i < listed.size := by omega
    rw [Array.getElem?_eq_getElem hl2]
    simp [Array.getD, hl2] at hl
    rw [hl]
  · rw [ho] at ha
    simp only [Option.map_some, Option.getD_some, Array.all_eq_true'] at ha
    have := ha e he
    rw [hb] at this
    simp [Array.getD] at this
    obtain ⟨h1, h2⟩ := this
    rw [Array.getElem?_eq_getElem h1, h2]
theorem Inv.env {ops : Array Oper} {its : List Item} {a0 : Act} {w0 : World} {β : Nat → Nat} {listed : Array Bool} {a : Act} {w : World} {n : Nat} (sh : Shape ops its n) (I : Inv ops its a0 w0 β listed a w)
    {o : Oper} (hr : ∀ e ∈ o.after, Region.binds .any e = true → listed[e.on]? = some true) : Env ops its a0 o a := by
  intro s v hk
  unfold known at hk
  split at hk
  · rename_i hf
    rw [I.rest s (fun i p hp hl hd => ?_)]
    · exact hk
    · rw [List.find?_eq_none] at hf
      have := hf i (List.mem_range.2 (itm_lt hp))
      simp [hp, hd] at this
  · rename_i j hf
    have h1 := List.find?_some hf
    rw [beq_iff_eq, Option.bind_eq_some_iff] at h1
    obtain ⟨p, hp, hd⟩ := h1
    split at hk
    · rename_i hany
      rw [List.any_eq_true] at hany
      obtain ⟨e, he, hb⟩ := hany
      rw [Array.mem_toList_iff] at he
      rw [Bool.and_eq_true, beq_iff_eq] at hb
      have hl := hr e he hb.1
      rw [hb.2] at hl
      split at hk
      · rename_i v' hv
        rw [I.done j p _ s hp hv hl hd]
        exact hk
      · cases hk
    · cases hk
theorem below_kept {blk : Nat → Bool} {w0 w w' : World} (k : Kept blk w0 w) (h : Below w.heap.size w w') : Kept blk w0 w' :=
  ⟨h.os.trans k.os, h.tape.trans k.tape, h.output.trans k.output, Nat.le_trans k.size h.size, fun b hb ho => (h.block b (Nat.lt_of_lt_of_le hb k.size)).trans (k.block b hb ho)⟩
section
variable {P : Program} {Q : Exit → Act → World → Prop} {ops : Array Oper} {its : List Item} {a0 : Act} {w0 : World} {β : Nat → Nat} {listed : Array Bool} {a : Act} {w : World}
theorem heap_lt {w : World} {b : Nat} {x : Obj} (h : w.heap[b]? = some x) : b < w.heap.size := by
  rcases Nat.lt_or_ge b w.heap.size with hlt | hge
  · exact hlt
  · rw [Array.getElem?_eq_none hge] at h; cases h
theorem Inv.frameDone (sh : Shape ops its a0.tmps.size) (I : Inv ops its a0 w0 β listed a w) {i : Nat} {o : Oper} {it : Item} (ho : ops[i]? = some o) (hi : its[i]? = some it) (hlf : listed[i]? = some false) {β' : Nat → Nat}
    (hβ : ∀ k, k ≠ i → β' k = β k) {v : Value} (hv : ∀ d, o.dst = some d → v = it.value β' i) :
    ∀ (j : Nat) (p : Oper) (jt : Item) (d : Nat), ops[j]? = some p → its[j]? = some jt → (listed.setIfInBounds i true)[j]? = some true → p.dst = some d → (a.put o.dst v).tmps[d]? = some (jt.value β' j) := by
  intro j p jt d hp hj hl hd
  rcases Nat.decEq j i with hne | rfl
  · have hl' := lookL hl hne
    have h1 := I.done j p jt d hp hj hl' hd
    have e1 : jt.value β' j = jt.value β j := by cases jt <;> simp [Item.value, hβ j hne]
    rw [e1, ← h1]
    cases hod : o.dst with
    | none => rfl
    | some d' =>
      refine put_other (fun e => hne ?_)
      subst e
      exact sh.once j i p o d' hp ho hd hod
  · rw [ho] at hp
    cases hp
    rw [hi] at hj
    cases hj
    rw [hd, put_this (by rw [I.tsize]; exact sh.lt j o d ho hd)]
    exact congrArg some (hv d hd)
theorem Inv.frameRest (I : Inv ops its a0 w0 β listed a w) {i : Nat} {o : Oper} (ho : ops[i]? = some o) (hlt : i < listed.size) {v : Value} :
    ∀ k, (∀ (j : Nat) (p : Oper), ops[j]? = some p → (listed.setIfInBounds i true)[j]? = some true → p.dst ≠ some k) → (a.put o.dst v).tmps[k]? = a0.tmps[k]? := by
  intro k hk
  have h1 : o.dst ≠ some k := hk i o ho (by simp [hlt])
  have h2 : a.tmps[k]? = a0.tmps[k]? := I.rest k (fun j p hp hl => hk j p hp (by
    rcases Nat.decEq j i with hne | rfl
    · rwa [Array.getElem?_setIfInBounds_ne (Ne.symm hne)]
    · simp [hlt]))
  cases hod : o.dst with
  | none => simpa [Act.put] using h2
  | some d => rw [put_other (fun e => h1 (by rw [hod, e])), h2]
theorem lookF {listed : Array Bool} {i j : Nat} (h : (listed.setIfInBounds i true)[j]? = some false) : j ≠ i ∧ listed[j]? = some false := by
  rcases Nat.decEq j i with hne | rfl
  · exact ⟨hne, by rwa [Array.getElem?_setIfInBounds_ne (Ne.symm hne)] at h⟩
  · rw [Array.getElem?_setIfInBounds_self] at h
    split at h <;> cases h
theorem mem_lt {i : Nat} {it : Item} (h : its[i]? = some it) : i < its.length := by
  rcases Nat.lt_or_ge i its.length with hlt | hge
  · exact hlt
  · rw [List.getElem?_eq_none hge] at h; cases h
theorem isOld_mem {b : Nat} {i k : Nat} {T : TypeId} {cs : Array Value} (h : its[i]? = some (.old b T cs)) (hw : waitsFor ops i k = false) : isOld ops its k b = true := by
  unfold isOld
  rw [List.any_eq_true]
  exact ⟨i, List.mem_range.2 (mem_lt h), by simp [h, hw]⟩
theorem waits_end (sh : Shape ops its a0.tmps.size) (j : Nat) : waitsFor ops j ops.size = false := by
  unfold waitsFor
  split
  · rename_i o ho
    rw [List.any_eq_false]
    intro e he
    rw [Array.mem_toList_iff] at he
    have h1 := sh.back j o ho e he
    have h2 := itm_lt ho
    cases hb : Region.binds .any e with
    | false => simp
    | true =>
      have h3 := h1 hb
      have : e.on ≠ ops.size := by omega
      simp [this]
  · rfl
theorem Inv.keptAt (sh : Shape ops its a0.tmps.size) (I : Inv ops its a0 w0 β listed a w) {i : Nat} (hlf : listed[i]? = some false) : Kept (isOld ops its i) w0 w := by
  refine ⟨I.kept.os, I.kept.tape, I.kept.output, I.kept.size, fun b hb ho => ?_⟩
  by_cases hold : isOld ops its ops.size b = false
  · exact I.kept.block b hb hold
  · rw [Bool.not_eq_false] at hold
    unfold isOld at hold
    rw [List.any_eq_true] at hold
    obtain ⟨j, hj, hm⟩ := hold
    rw [List.mem_range] at hj
    split at hm
    · rename_i b' T cs hjt
      rw [Bool.and_eq_true, beq_iff_eq] at hm
      obtain ⟨rfl, _⟩ := hm
      have hw : waitsFor ops j i = true := by
        rcases hwt : waitsFor ops j i with _ | _
        · rw [isOld_mem hjt hwt] at ho; cases ho
        · rfl
      unfold waitsFor at hw
      split at hw
      · rename_i o hoj
        rw [List.any_eq_true] at hw
        obtain ⟨e, he, hb2⟩ := hw
        rw [Array.mem_toList_iff] at he
        rw [Bool.and_eq_true, beq_iff_eq] at hb2
        have hlj : listed[j]? = some (listed[j]'(by rw [I.len, ← sh.len]; exact hj)) := Array.getElem?_eq_getElem _
        cases hv : listed[j]'(by rw [I.len, ← sh.len]; exact hj) with
        | true =>
          rw [hv] at hlj
          have := I.closed j o hoj hlj e he hb2.1
          rw [hb2.2, hlf] at this
          cases this
        | false =>
          rw [hv] at hlj
          exact I.waits j b' T cs hjt hlj
      · cases hw
    · cases hm
theorem Inv.closedSet (I : Inv ops its a0 w0 β listed a w) {i : Nat} {o : Oper} (ho : ops[i]? = some o) (haft : ∀ e ∈ o.after, Region.binds .any e = true → listed[e.on]? = some true) :
    ∀ (j : Nat) (p : Oper), ops[j]? = some p → (listed.setIfInBounds i true)[j]? = some true → ∀ e ∈ p.after, Region.binds .any e = true → (listed.setIfInBounds i true)[e.on]? = some true := by
  intro j p hp hl e he hb
  rcases Nat.decEq j i with hne | rfl
  · exact listed_set (I.closed j p hp (lookL hl hne) e he hb)
  · rw [ho] at hp
    cases hp
    exact listed_set (haft e he hb)
theorem Inv.val (sh : Shape ops its a0.tmps.size) (I : Inv ops its a0 w0 β listed a w) {i : Nat} {o : Oper} {v : Value} (ho : ops[i]? = some o) (hi : its[i]? = some (.val v)) (hlf : listed[i]? = some false) {w' : World} (hb : Below w.heap.size w w') (haft : ∀ e ∈ o.after, Region.binds .any e = true → listed[e.on]? = some true)
    (hold : ∀ (j b : Nat) (T : TypeId) (cs : Array Value), its[j]? = some (.old b T cs) → b < w0.heap.size) :
    Inv ops its a0 w0 β (listed.setIfInBounds i true) (a.put o.dst v) w' := by
  have hlt : i < listed.size := by rw [I.len]; exact itm_lt ho
  refine ⟨by simpa using I.len, by rw [put_defers]; exact I.defers, by rw [put_size]; exact I.tsize, I.frameDone sh ho hi hlf (fun _ _ => rfl) (fun _ _ => rfl), I.frameRest ho hlt, below_kept I.kept hb, I.closedSet ho haft, ?_, ?_, ?_, ?_, ?_, ?_⟩
  · intro j T z hj hl
    have hne : j ≠ i := by rintro rfl; rw [hi] at hj; cases hj
    obtain ⟨h1, h2, cs, h3, h4⟩ := I.news j T z hj (lookL hl hne)
    exact ⟨h1, Nat.lt_of_lt_of_le h2 hb.size, cs, (hb.block _ h2).trans h3, h4⟩
  · intro j k T T' z z' hj hk hl hl' hne
    have h1 : j ≠ i := by rintro rfl; rw [hi] at hj; cases hj
    have h2 : k ≠ i := by rintro rfl; rw [hi] at hk; cases hk
    exact I.apart j k T T' z z' hj hk (lookL hl h1) (lookL hl' h2) hne
  · intro j k cs T z hj hk hl hl'
    have h1 : j ≠ i := by rintro rfl; rw [hi] at hj; cases hj
    have h2 : k ≠ i := by rintro rfl; rw [hi] at hk; cases hk
    have h3 := I.puts j k cs T z hj hk (lookL hl h1) (lookL hl' h2)
    exact (hb.block _ (heap_lt h3)).trans h3
  · intro j b T cs hj hl
    have h1 : j ≠ i := by rintro rfl; rw [hi] at hj; cases hj
    have h3 := I.olds j b T cs hj (lookL hl h1)
    exact (hb.block _ (heap_lt h3)).trans h3
  · intro j k cs hj hl
    have h1 : j ≠ i := by rintro rfl; rw [hi] at hj; cases hj
    exact listed_set (I.behind j k cs hj (lookL hl h1))
  · intro j b T cs hj hl
    obtain ⟨h1, h2⟩ := lookF hl
    exact (hb.block _ (Nat.lt_of_lt_of_le (hold j b T cs hj) I.kept.size)).trans (I.waits j b T cs hj h2)
theorem Inv.skip_ (sh : Shape ops its a0.tmps.size) (I : Inv ops its a0 w0 β listed a w) {i : Nat} {o : Oper} (ho : ops[i]? = some o) (hi : its[i]? = some .skip) (hlf : listed[i]? = some false) (haft : ∀ e ∈ o.after, Region.binds .any e = true → listed[e.on]? = some true)
    (hold : ∀ (j b : Nat) (T : TypeId) (cs : Array Value), its[j]? = some (.old b T cs) → b < w0.heap.size) :
    Inv ops its a0 w0 β (listed.setIfInBounds i true) (a.put o.dst undef) w := by
  have hb : Below w.heap.size w w := Below.refl _ _
  have hlt : i < listed.size := by rw [I.len]; exact itm_lt ho
  refine ⟨by simpa using I.len, by rw [put_defers]; exact I.defers, by rw [put_size]; exact I.tsize, I.frameDone sh ho hi hlf (fun _ _ => rfl) (fun _ _ => rfl), I.frameRest ho hlt, below_kept I.kept hb, I.closedSet ho haft, ?_, ?_, ?_, ?_, ?_, ?_⟩
  · intro j T z hj hl
    have hne : j ≠ i := by rintro rfl; rw [hi] at hj; cases hj
    obtain ⟨h1, h2, cs, h3, h4⟩ := I.news j T z hj (lookL hl hne)
    exact ⟨h1, Nat.lt_of_lt_of_le h2 hb.size, cs, (hb.block _ h2).trans h3, h4⟩
  · intro j k T T' z z' hj hk hl hl' hne
    have h1 : j ≠ i := by rintro rfl; rw [hi] at hj; cases hj
    have h2 : k ≠ i := by rintro rfl; rw [hi] at hk; cases hk
    exact I.apart j k T T' z z' hj hk (lookL hl h1) (lookL hl' h2) hne
  · intro j k cs T z hj hk hl hl'
    have h1 : j ≠ i := by rintro rfl; rw [hi] at hj; cases hj
    have h2 : k ≠ i := by rintro rfl; rw [hi] at hk; cases hk
    have h3 := I.puts j k cs T z hj hk (lookL hl h1) (lookL hl' h2)
    exact (hb.block _ (heap_lt h3)).trans h3
  · intro j b T cs hj hl
    have h1 : j ≠ i := by rintro rfl; rw [hi] at hj; cases hj
    have h3 := I.olds j b T cs hj (lookL hl h1)
    exact (hb.block _ (heap_lt h3)).trans h3
  · intro j k cs hj hl
    have h1 : j ≠ i := by rintro rfl; rw [hi] at hj; cases hj
    exact listed_set (I.behind j k cs hj (lookL hl h1))
  · intro j b T cs hj hl
    obtain ⟨h1, h2⟩ := lookF hl
    exact (hb.block _ (Nat.lt_of_lt_of_le (hold j b T cs hj) I.kept.size)).trans (I.waits j b T cs hj h2)
theorem Inv.new_ (sh : Shape ops its a0.tmps.size) (I : Inv ops its a0 w0 β listed a w) {i : Nat} {o : Oper} {T : TypeId} {z : Array Value} (ho : ops[i]? = some o) (hi : its[i]? = some (.new T z)) (hlf : listed[i]? = some false) (haft : ∀ e ∈ o.after, Region.binds .any e = true → listed[e.on]? = some true)
    (hold : ∀ (j b : Nat) (T : TypeId) (cs : Array Value), its[j]? = some (.old b T cs) → b < w0.heap.size) :
    Inv ops its a0 w0 (fun k => if k = i then w.heap.size else β k) (listed.setIfInBounds i true) (a.put o.dst (.pointer (some ⟨w.heap.size, 0, none⟩))) (w.alloc (.cells z T)) := by
  have hlt : i < listed.size := by rw [I.len]; exact itm_lt ho
  have hb : Below w.heap.size w (w.alloc (.cells z T)) := (Below.refl _ _).alloc (Nat.le_refl _) _
  have hne' : ∀ k, k ≠ i → (if k = i then w.heap.size else β k) = β k := fun k hk => if_neg hk
  refine ⟨by simpa using I.len, by rw [put_defers]; exact I.defers, by rw [put_size]; exact I.tsize, I.frameDone sh ho hi hlf hne' (fun _ _ => by simp [Item.value]), I.frameRest ho hlt, below_kept I.kept hb, I.closedSet ho haft, ?_, ?_, ?_, ?_, ?_, ?_⟩
  · intro j T' z' hj hl
    show _ ≤ (if j = i then w.heap.size else β j) ∧ (if j = i then w.heap.size else β j) < _ ∧ ∃ cs, _
    rcases Nat.decEq j i with hne | rfl
    · rw [if_neg hne]
      obtain ⟨h1, h2, cs, h3, h4⟩ := I.news j T' z' hj (lookL hl hne)
      exact ⟨h1, Nat.lt_of_lt_of_le h2 hb.size, cs, (hb.block _ h2).trans h3, h4⟩
    · rw [if_pos rfl]
      rw [hi] at hj
      cases hj
      exact ⟨I.kept.size, by simp, z, heap_alloc_new w _, rfl⟩
  · intro j k T1 T2 z1 z2 hj hk hl hl' hne
    show (if j = i then w.heap.size else β j) ≠ (if k = i then w.heap.size else β k)
    rcases Nat.decEq j i with h1 | rfl
    · rw [if_neg h1]
      obtain ⟨_, hj2, _⟩ := I.news j T1 z1 hj (lookL hl h1)
      rcases Nat.decEq k i with h2 | rfl
      · rw [if_neg h2]
        exact I.apart j k T1 T2 z1 z2 hj hk (lookL hl h1) (lookL hl' h2) hne
      · rw [if_pos rfl]; omega
    · rw [if_pos rfl, if_neg (Ne.symm hne)]
      obtain ⟨_, hk2, _⟩ := I.news k T2 z2 hk (lookL hl' (Ne.symm hne))
      omega
  · intro j k cs T1 z1 hj hk hl hl'
    show (w.alloc (.cells z T)).heap[(if k = i then w.heap.size else β k)]? = _
    have h1 : j ≠ i := by rintro rfl; rw [hi] at hj; cases hj
    have hlj := lookL hl h1
    rcases Nat.decEq k i with h2 | rfl
    · rw [if_neg h2]
      have h3 := I.puts j k cs T1 z1 hj hk hlj (lookL hl' h2)
      exact (hb.block _ (heap_lt h3)).trans h3
    · exact absurd (I.behind j k cs hj hlj) (by rw [hlf]; simp)
  · intro j b T1 cs hj hl
    have h1 : j ≠ i := by rintro rfl; rw [hi] at hj; cases hj
    have h3 := I.olds j b T1 cs hj (lookL hl h1)
    exact (hb.block _ (heap_lt h3)).trans h3
  · intro j k cs hj hl
    have h1 : j ≠ i := by rintro rfl; rw [hi] at hj; cases hj
    exact listed_set (I.behind j k cs hj (lookL hl h1))
  · intro j b T1 cs hj hl
    obtain ⟨h1, h2⟩ := lookF hl
    exact (hb.block _ (Nat.lt_of_lt_of_le (hold j b T1 cs hj) I.kept.size)).trans (I.waits j b T1 cs hj h2)
theorem Inv.put_ (sh : Shape ops its a0.tmps.size) (I : Inv ops its a0 w0 β listed a w) {i k : Nat} {o : Oper} {cs : Array Value} {T : TypeId} {z : Array Value} (ho : ops[i]? = some o) (hi : its[i]? = some (.put k cs)) (hk : its[k]? = some (.new T z))
    (hlf : listed[i]? = some false) (hlk : listed[k]? = some true) (hsz : cs.size = z.size) {w' : World} (hr : Rewrites w w' (β k) T cs) (haft : ∀ e ∈ o.after, Region.binds .any e = true → listed[e.on]? = some true)
    (hold : ∀ (j b : Nat) (T : TypeId) (cs : Array Value), its[j]? = some (.old b T cs) → b < w0.heap.size) :
    Inv ops its a0 w0 β (listed.setIfInBounds i true) (a.put o.dst undef) w' := by
  have hlt : i < listed.size := by rw [I.len]; exact itm_lt ho
  obtain ⟨n1, n2, cs0, n3, n4⟩ := I.news k T z hk hlk
  have hd := (sh.putDst i o k cs ho hi).1
  refine ⟨by simpa using I.len, by rw [put_defers]; exact I.defers, by rw [put_size]; exact I.tsize, I.frameDone sh ho hi hlf (fun _ _ => rfl) (fun d h => by rw [hd] at h; cases h), I.frameRest ho hlt,
    ⟨hr.os.trans I.kept.os, hr.tape.trans I.kept.tape, hr.output.trans I.kept.output, by rw [hr.size]; exact I.kept.size, fun b hb hb2 => (hr.block b (by omega)).trans (I.kept.block b hb hb2)⟩, I.closedSet ho haft, ?_, ?_, ?_, ?_, ?_, ?_⟩
  · intro j T' z' hj hl
    have hne : j ≠ i := by rintro rfl; rw [hi] at hj; cases hj
    obtain ⟨h1, h2, c, h3, h4⟩ := I.news j T' z' hj (lookL hl hne)
    refine ⟨h1, by rw [hr.size]; exact h2, ?_⟩
    rcases Nat.decEq j k with hjk | rfl
    · exact ⟨c, (hr.block _ (I.apart j k _ _ _ _ hj hk (lookL hl hne) hlk hjk)).trans h3, h4⟩
    · rw [hk] at hj
      cases hj
      exact ⟨cs, hr.this, hsz⟩
  · intro j l T1 T2 z1 z2 hj hl hlj hll hne
    have h1 : j ≠ i := by rintro rfl; rw [hi] at hj; cases hj
    have h2 : l ≠ i := by rintro rfl; rw [hi] at hl; cases hl
    exact I.apart j l T1 T2 z1 z2 hj hl (lookL hlj h1) (lookL hll h2) hne
  · intro j l c T1 z1 hj hl hlj hll
    have h2 : l ≠ i := by rintro rfl; rw [hi] at hl; cases hl
    have hll' := lookL hll h2
    rcases Nat.decEq j i with h1 | rfl
    · have h3 := I.puts j l c T1 z1 hj hl (lookL hlj h1) hll'
      have hlk' : l ≠ k := by
        rintro rfl
        exact h1 (sh.putOnce j i l c cs hj hi)
      exact (hr.block _ (I.apart l k _ _ _ _ hl hk hll' hlk hlk')).trans h3
    · rw [hi] at hj
      cases hj
      rw [hk] at hl
      cases hl
      exact hr.this
  · intro j b T1 c hj hl
    have h1 : j ≠ i := by rintro rfl; rw [hi] at hj; cases hj
    have h3 := I.olds j b T1 c hj (lookL hl h1)
    have := hold j b T1 c hj
    exact (hr.block _ (by omega)).trans h3
  · intro j l c hj hl
    rcases Nat.decEq j i with h1 | rfl
    · exact listed_set (I.behind j l c hj (lookL hl h1))
    · rw [hi] at hj
      cases hj
      exact listed_set hlk
  · intro j b T1 c hj hl
    obtain ⟨h1, h2⟩ := lookF hl
    have := hold j b T1 c hj
    exact (hr.block _ (by omega)).trans (I.waits j b T1 c hj h2)
theorem Inv.old_ (sh : Shape ops its a0.tmps.size) (I : Inv ops its a0 w0 β listed a w) {i b : Nat} {o : Oper} {cs : Array Value} {T : TypeId} (ho : ops[i]? = some o) (hi : its[i]? = some (.old b T cs))
    (hlf : listed[i]? = some false) {w' : World} (hr : Rewrites w w' b T cs) (haft : ∀ e ∈ o.after, Region.binds .any e = true → listed[e.on]? = some true)
    (hold : ∀ (j b : Nat) (T : TypeId) (cs : Array Value), its[j]? = some (.old b T cs) → b < w0.heap.size) :
    Inv ops its a0 w0 β (listed.setIfInBounds i true) (a.put o.dst undef) w' := by
  have hlt : i < listed.size := by rw [I.len]; exact itm_lt ho
  have hd := sh.oldDst i o b T cs ho hi
  have hbs := hold i b T cs hi
  refine ⟨by simpa using I.len, by rw [put_defers]; exact I.defers, by rw [put_size]; exact I.tsize, I.frameDone sh ho hi hlf (fun _ _ => rfl) (fun d h => by rw [hd] at h; cases h), I.frameRest ho hlt,
    ⟨hr.os.trans I.kept.os, hr.tape.trans I.kept.tape, hr.output.trans I.kept.output, by rw [hr.size]; exact I.kept.size, fun c hc hc2 => (hr.block c (by rintro rfl; rw [isOld_mem hi (waits_end sh i)] at hc2; cases hc2)).trans (I.kept.block c hc hc2)⟩, I.closedSet ho haft, ?_, ?_, ?_, ?_, ?_, ?_⟩
  · intro j T' z' hj hl
    have hne : j ≠ i := by rintro rfl; rw [hi] at hj; cases hj
    obtain ⟨h1, h2, c, h3, h4⟩ := I.news j T' z' hj (lookL hl hne)
    exact ⟨h1, by rw [hr.size]; exact h2, c, (hr.block _ (by omega)).trans h3, h4⟩
  · intro j l T1 T2 z1 z2 hj hl hlj hll hne
    have h1 : j ≠ i := by rintro rfl; rw [hi] at hj; cases hj
    have h2 : l ≠ i := by rintro rfl; rw [hi] at hl; cases hl
    exact I.apart j l T1 T2 z1 z2 hj hl (lookL hlj h1) (lookL hll h2) hne
  · intro j l c T1 z1 hj hl hlj hll
    have h1 : j ≠ i := by rintro rfl; rw [hi] at hj; cases hj
    have h2 : l ≠ i := by rintro rfl; rw [hi] at hl; cases hl
    have h3 := I.puts j l c T1 z1 hj hl (lookL hlj h1) (lookL hll h2)
    obtain ⟨h4, _, _⟩ := I.news l T1 z1 hl (lookL hll h2)
    exact (hr.block _ (by omega)).trans h3
  · intro j c T1 cs1 hj hl
    rcases Nat.decEq j i with h1 | rfl
    · have h3 := I.olds j c T1 cs1 hj (lookL hl h1)
      refine (hr.block _ ?_).trans h3
      rintro rfl
      exact h1 (sh.oldOnce j i c T1 T cs1 cs hj hi)
    · rw [hi] at hj
      cases hj
      exact hr.this
  · intro j l c hj hl
    have h1 : j ≠ i := by rintro rfl; rw [hi] at hj; cases hj
    exact listed_set (I.behind j l c hj (lookL hl h1))
  · intro j c T1 cs1 hj hl
    obtain ⟨h1, h2⟩ := lookF hl
    refine (hr.block _ ?_).trans (I.waits j c T1 cs1 hj h2)
    rintro rfl
    exact h1 (sh.oldOnce j i c T1 T cs1 cs hj hi)
structure Fin (ops : Array Oper) (its : List Item) (w0 : World) (β : Nat → Nat) (w : World) : Prop where
  kept : Kept (isOld ops its ops.size) w0 w
  news : ∀ (i : Nat) (T : TypeId) (z : Array Value), its[i]? = some (.new T z) → w0.heap.size ≤ β i ∧ β i < w.heap.size ∧ ∃ cs, w.heap[β i]? = some (.cells cs T (0, 0)) ∧ cs.size = z.size
  apart : ∀ (i j : Nat) (T T' : TypeId) (z z' : Array Value), its[i]? = some (.new T z) → its[j]? = some (.new T' z') → i ≠ j → β i ≠ β j
  puts : ∀ (i k : Nat) (cs : Array Value) (T : TypeId) (z : Array Value), its[i]? = some (.put k cs) → its[k]? = some (.new T z) → w.heap[β k]? = some (.cells cs T (0, 0))
  olds : ∀ (i b : Nat) (T : TypeId) (cs : Array Value), its[i]? = some (.old b T cs) → w.heap[b]? = some (.cells cs T (0, 0))
def finAct (ops : Array Oper) (its : List Item) (β : Nat → Nat) : Nat → Act → Act
  | 0, a => a
  | m + 1, a => match ops[m]?, its[m]? with
    | some o, some it => match o.dst with
      | some d => (finAct ops its β m a).put (some d) (it.value β m)
      | none => finAct ops its β m a
    | _, _ => finAct ops its β m a
theorem finAct_size (m : Nat) : (finAct ops its β m a).tmps.size = a.tmps.size ∧ (finAct ops its β m a).defers = a.defers := by
  induction m with
  | zero => exact ⟨rfl, rfl⟩
  | succ m ih =>
    unfold finAct
    split
    · split
      · exact ⟨by rw [put_size]; exact ih.1, by rw [put_defers]; exact ih.2⟩
      · exact ih
    · exact ih
theorem finAct_rest (m k : Nat) (h : ∀ (i : Nat) (o : Oper), i < m → ops[i]? = some o → o.dst ≠ some k) : (finAct ops its β m a).tmps[k]? = a.tmps[k]? := by
  induction m with
  | zero => rfl
  | succ m ih =>
    have ih' := ih (fun i o hi => h i o (by omega))
    unfold finAct
    split
    · rename_i o it ho hi
      split
      · rename_i d hd
        rw [put_other (fun e => h m o (by omega) ho (by rw [hd, e]))]
        exact ih'
      · exact ih'
    · exact ih'
theorem finAct_done (sh : Shape ops its a.tmps.size) (m : Nat) {i : Nat} {o : Oper} {it : Item} {d : Nat} (him : i < m) (ho : ops[i]? = some o) (hi : its[i]? = some it) (hd : o.dst = some d) :
    (finAct ops its β m a).tmps[d]? = some (it.value β i) := by
  induction m with
  | zero => omega
  | succ m ih =>
    unfold finAct
    rcases Nat.decEq i m with hne | rfl
    · have ih' := ih (by omega)
      split
      · rename_i p jt hp hj
        split
        · rename_i d' hd'
          rw [put_other (fun e => hne (by subst e; exact sh.once i m o p d' ho hp hd hd'))]
          exact ih'
        · exact ih'
      · exact ih'
    · rw [ho, hi]
      simp only [hd]
      exact put_this (by rw [(finAct_size i).1]; exact sh.lt i o d ho hd)
theorem Inv.fin_act (sh : Shape ops its a0.tmps.size) (I : Inv ops its a0 w0 β listed a w) (hall : ∀ i, i < ops.size → listed[i]? = some true) : a = finAct ops its β ops.size a0 := by
  obtain ⟨h1, h2⟩ := finAct_size (ops := ops) (its := its) (β := β) (a := a0) ops.size
  have ht : a.tmps = (finAct ops its β ops.size a0).tmps := by
    apply Array.ext_getElem?
    intro k
    by_cases hk : ∃ (i : Nat) (o : Oper), ops[i]? = some o ∧ o.dst = some k
    · obtain ⟨i, o, ho, hd⟩ := hk
      have hlt := itm_lt ho
      have hi : its[i]? = some (its[i]'(by rw [sh.len]; exact hlt)) := List.getElem?_eq_getElem _
      rw [I.done i o _ k ho hi (hall i hlt) hd, finAct_done sh ops.size hlt ho hi hd]
    · rw [I.rest k (fun i o ho _ hd => hk ⟨i, o, ho, hd⟩), finAct_rest ops.size k (fun i o _ ho hd => hk ⟨i, o, ho, hd⟩)]
  cases a with
  | mk t d =>
    cases hf : finAct ops its β ops.size a0 with
    | mk t' d' =>
      rw [hf] at ht h2
      simp only at ht h2
      have := I.defers
      simp only at this
      rw [ht, this, h2]
theorem Inv.fin_ (I : Inv ops its a0 w0 β listed a w) (hlen : its.length = ops.size) (hall : ∀ i, i < ops.size → listed[i]? = some true) : Fin ops its w0 β w := by
  have lt : ∀ (i : Nat) (it : Item), its[i]? = some it → listed[i]? = some true := fun i it h => hall i (by
    rcases Nat.lt_or_ge i its.length with h' | h'
    · omega
    · rw [List.getElem?_eq_none h'] at h; cases h)
  exact ⟨I.kept, fun i T z h => I.news i T z h (lt _ _ h), fun i j T T' z z' h h' hne => I.apart i j T T' z z' h h' (lt _ _ h) (lt _ _ h') hne,
    fun i k cs T z h h' => I.puts i k cs T z h h' (lt _ _ h) (lt _ _ h'), fun i b T cs h => I.olds i b T cs h (lt _ _ h)⟩
theorem Inv.wanted_ (I : Inv ops its a0 w0 β listed a w) {o : Oper} {it : Item} (haft : ∀ e ∈ o.after, Region.binds .any e = true → listed[e.on]? = some true) (hg : guardOk ops its o it = true) :
    Region.wanted o (yielded ops a.tmps) = !isSkip it := by
  unfold guardOk at hg
  unfold Region.wanted
  split at hg
  · rename_i hn
    rw [hn]
    simpa using hg.symm
  · rename_i j want hn
    rw [hn]
    rw [Bool.and_eq_true, List.any_eq_true] at hg
    obtain ⟨⟨e, he, hb⟩, hm⟩ := hg
    rw [Array.mem_toList_iff] at he
    rw [Bool.and_eq_true, beq_iff_eq] at hb
    have hl := haft e he hb.1
    rw [hb.2] at hl
    split at hm
    · rename_i q b hp hj
      rw [Bool.and_eq_true] at hm
      obtain ⟨hd, hx⟩ := hm
      obtain ⟨d, hd⟩ := Option.isSome_iff_exists.1 hd
      have hv := I.done j q _ d hp hj hl hd
      have hy : yielded ops a.tmps j = some b := by
        unfold yielded
        rw [hp]
        simp only [Option.bind_some, hd, hv, Item.value]
      simp only [hy]
      cases b <;> cases want <;> cases hs : isSkip it <;> simp_all
    · cases hm
def left (listed : Array Bool) : Nat := listed.toList.count false
theorem left_set {i : Nat} (h : listed[i]? = some false) : left (listed.setIfInBounds i true) + 1 = left listed := by
  unfold left
  rw [Array.toList_setIfInBounds]
  obtain ⟨l⟩ := listed
  simp only [List.getElem?_toArray] at h
  show List.count false (l.set i true) + 1 = List.count false l
  induction l generalizing i with
  | nil => simp at h
  | cons x l ih =>
    cases i with
    | zero =>
      simp only [List.getElem?_cons_zero, Option.some.injEq] at h
      subst h
      simp
    | succ i =>
      simp only [List.getElem?_cons_succ] at h
      have := ih h
      simp only [List.set_cons_succ, List.count_cons]
      omega
theorem all_of_ready (sh : Shape ops its a0.tmps.size) (hlen : listed.size = ops.size) (h : Region.ready .any ops listed = []) : ∀ i, i < ops.size → listed[i]? = some true := by
  intro i
  induction i using Nat.strongRecOn with
  | ind i ih =>
    intro hlt
    have hl : listed[i]? = some (listed[i]'(by omega)) := Array.getElem?_eq_getElem _
    cases hv : listed[i]'(by omega) with
    | true => rw [hl, hv]
    | false =>
      exfalso
      have ho : ops[i]? = some (ops[i]'hlt) := Array.getElem?_eq_getElem hlt
      have hmem : i ∈ Region.ready .any ops listed := by
        unfold Region.ready
        rw [List.mem_filter, List.mem_range, Bool.and_eq_true]
        refine ⟨hlt, ?_, ?_⟩
        · have hl2 : i < listed.size := by omega
          simp [Array.getD, hl2, hv]
        · rw [ho]
          simp only [Option.map_some, Option.getD_some, Array.all_eq_true']
          intro e he
          cases hbind : Region.binds .any e with
          | false => simp
          | true =>
            have hb := sh.back i _ ho e he hbind
            have h3 := ih e.on hb (by omega)
            have hl3 : e.on < listed.size := by omega
            rw [Array.getElem?_eq_getElem hl3] at h3
            simp [Array.getD, hl3, Option.some.inj h3]
      rw [h] at hmem
      cases hmem
theorem wpAny_inv (sh : Shape ops its a0.tmps.size)
    (hold : ∀ (j b : Nat) (T : TypeId) (cs : Array Value), its[j]? = some (.old b T cs) → ∃ cs0, w0.heap[b]? = some (.cells cs0 T (0, 0)) ∧ cs0.size = cs.size)
    (hput : ∀ (i k : Nat) (cs : Array Value) (T : TypeId) (z : Array Value), its[i]? = some (.put k cs) → its[k]? = some (.new T z) → cs.size = z.size)
    (hstep : ∀ (i : Nat) (o : Oper) (it : Item), ops[i]? = some o → its[i]? = some it → StepOk P Q ops its a0 w0 i o it)
    (hend : ∀ β w, Fin ops its w0 β w → Q .normal (finAct ops its β ops.size a0) w) :
    ∀ (fuel : Nat) (β : Nat → Nat) (listed : Array Bool) (a : Act) (w : World), Inv ops its a0 w0 β listed a w → left listed ≤ fuel → wpAny P .any ops Q fuel listed a w := by
  have hold' : ∀ (j b : Nat) (T : TypeId) (cs : Array Value), its[j]? = some (.old b T cs) → b < w0.heap.size := fun j b T cs h => by
    obtain ⟨cs0, h1, _⟩ := hold j b T cs h
    exact heap_lt h1
  have done : ∀ (β : Nat → Nat) (listed : Array Bool) (a : Act) (w : World), Inv ops its a0 w0 β listed a w → Region.ready .any ops listed = [] → Q .normal a w := fun β listed a w I hr => by
    have hall := all_of_ready sh I.len hr
    rw [I.fin_act sh hall]
    exact hend β w (I.fin_ sh.len hall)
  intro fuel
  induction fuel with
  | zero =>
    intro β listed a w I hc
    have hr : Region.ready .any ops listed = [] := by
      rcases hrd : Region.ready .any ops listed with _ | ⟨i, l⟩
      · rfl
      · exfalso
        obtain ⟨o, ho, hf, _⟩ := ready_spec I.len (i := i) (by rw [hrd]; exact List.mem_cons_self)
        have := left_set hf
        omega
    exact ⟨hr, done β listed a w I hr⟩
  | succ fuel ih =>
    intro β listed a w I hc
    refine ⟨done β listed a w I, fun i hi => ?_⟩
    obtain ⟨o, ho, hf, haft⟩ := ready_spec I.len hi
    have hlt := itm_lt ho
    have hit : its[i]? = some (its[i]'(by rw [sh.len]; exact hlt)) := List.getElem?_eq_getElem _
    have E := I.env sh haft
    have hstep' := hstep i o _ ho hit
    have hkA := I.keptAt sh hf
    have hcount := left_set hf
    have next : ∀ (β' : Nat → Nat) (a' : Act) (w' : World), Inv ops its a0 w0 β' (listed.setIfInBounds i true) a' w' → wpAny P .any ops Q fuel (listed.setIfInBounds i true) a' w' := fun β' a' w' I' => ih β' _ a' w' I' (by omega)
    unfold wpOp
    rw [ho]
    have hg := sh.guard i o _ ho hit
    generalize its[i]'(by rw [sh.len]; exact hlt) = it at hit hstep' hg
    have hw : Region.wanted o (yielded ops a.tmps) = !isSkip it := I.wanted_ haft hg
    simp only [hw]
    by_cases hs : isSkip it = true
    · rw [hs]
      simp only [Bool.not_true, Bool.false_eq_true, if_false]
      cases it <;> simp only [isSkip, Bool.false_eq_true] at hs
      exact next β _ _ (I.skip_ sh ho hit hf haft hold')
    rw [Bool.not_eq_true] at hs
    rw [hs]
    simp only [Bool.not_false, if_true]
    refine .inl ?_
    cases it with
    | skip => simp [isSkip] at hs
    | val v => exact hstep' a w _ E hkA (fun w' hb => next β _ _ (I.val sh ho hit hf hb haft hold'))
    | new T z => exact hstep' a w _ E hkA (next _ _ _ (I.new_ sh ho hit hf haft hold'))
    | put k cs =>
      obtain ⟨hd, ⟨e, he, hb, hek⟩, T, z, hk⟩ := sh.putDst i o k cs ho hit
      have hlk : listed[k]? = some true := by rw [← hek]; exact haft e he hb
      obtain ⟨n1, n2, cs0, n3, n4⟩ := I.news k T z hk hlk
      have hkl : k < ops.size := by
        rcases Nat.lt_or_ge k its.length with h | h
        · rw [← sh.len]; exact h
        · rw [List.getElem?_eq_none h] at hk; cases hk
      have hok : ops[k]? = some (ops[k]'hkl) := Array.getElem?_eq_getElem hkl
      obtain ⟨d, hdk⟩ := sh.newDst k _ T z hok hk
      exact hstep' T z hk a w _ (β k) cs0 d E hkA (by rw [hok]; exact hdk) (I.done k _ _ d hok hk hlk hdk) n3 n4 (fun w' hr => next β _ _ (I.put_ sh ho hit hk hf hlk (hput i k cs T z hit hk) hr haft hold'))
    | old b T cs =>
      obtain ⟨cs0, h1, h2⟩ := hold i b T cs hit
      exact hstep' a w _ cs0 E hkA (I.waits i b T cs hit hf) ((I.waits i b T cs hit hf).trans h1) h2 (fun w' hr => next β _ _ (I.old_ sh ho hit hf hr haft hold'))
theorem inv_start : Inv ops its a0 w0 β (Array.replicate ops.size false) a0 w0 := by
  have no : ∀ i, (Array.replicate ops.size false)[i]? ≠ some true := fun i h => by
    rw [Array.getElem?_replicate] at h
    split at h <;> cases h
  exact ⟨by simp, rfl, rfl, fun i _ _ _ _ _ h => absurd h (no i), fun _ _ => rfl, ⟨rfl, rfl, rfl, Nat.le_refl _, fun _ _ _ => rfl⟩, fun i _ _ h => absurd h (no i), fun i _ _ _ h => absurd h (no i), fun i _ _ _ _ _ _ _ h => absurd h (no i),
    fun i _ _ _ _ _ _ h => absurd h (no i), fun i _ _ _ _ h => absurd h (no i), fun i _ _ _ h => absurd h (no i), fun _ _ _ _ _ _ => rfl⟩
theorem wp_region_grow {id : Nat} {ops : Array Oper} {a0 : Act} {w : World} (its : List Item) (hm : P.follows .mixedOrders = true) (sh : shape ops its a0.tmps.size = true) (hg : ∀ (i : Nat) (o : Oper) (it : Item), ops[i]? = some o → its[i]? = some it → guardOk ops its o it = true) (hnd : (olds its).Nodup)
    (hold : ∀ (j b : Nat) (T : TypeId) (cs : Array Value), its[j]? = some (.old b T cs) → ∃ cs0, w.drew.heap[b]? = some (.cells cs0 T (0, 0)) ∧ cs0.size = cs.size)
    (hput : ∀ (i k : Nat) (cs : Array Value) (T : TypeId) (z : Array Value), its[i]? = some (.put k cs) → its[k]? = some (.new T z) → cs.size = z.size)
    (hstep : ∀ (i : Nat) (o : Oper) (it : Item), ops[i]? = some o → its[i]? = some it → StepOk P Q ops its a0 w.drew i o it)
    (hend : ∀ β w', Fin ops its w.drew β w' → Q .normal (finAct ops its β ops.size a0) w') : (Code.region id ops true).wp P Q a0 w :=
  wp_region_any hm (wpAny_inv (Shape.of sh hg hnd) hold hput hstep hend _ (fun _ => 0) _ _ _ inv_start (by simp [left]))
def noOlds (its : List Item) : Bool := its.all fun | .old _ _ _ => false | _ => true
theorem noOlds_spec (h : noOlds its = true) : ∀ (j b : Nat) (T : TypeId) (cs : Array Value), its[j]? ≠ some (.old b T cs) := fun j b T cs hj => by
  unfold noOlds at h
  rw [List.all_eq_true] at h
  have := h _ (List.mem_of_getElem? hj)
  cases this
theorem noOlds_isOld (hno : noOlds its = true) (i b : Nat) : isOld ops its i b = false := by
  unfold isOld
  rw [List.any_eq_false]
  intro j hj
  split
  · rename_i b' T cs h
    exact absurd h (noOlds_spec hno j b' T cs)
  · simp
theorem Kept.cells {i : Nat} (h : Kept (isOld ops its i) w0 w) (hno : noOlds its = true) : (∀ b o, b < w0.heap.size → w.cell? ⟨b, o, none⟩ = w0.cell? ⟨b, o, none⟩) ∧ (∀ b o, b < w0.heap.size → w.frozen? ⟨b, o, none⟩ = w0.frozen? ⟨b, o, none⟩) :=
  ⟨fun b o hb => World.cell?_of_block (w := w0) (h.block b hb (noOlds_isOld hno i b)), fun b o hb => World.frozen?_of_block (w := w0) (h.block b hb (noOlds_isOld hno i b))⟩
theorem cell_blk {b : Nat} {T : TypeId} {cs : Array Value} (h : w.heap[b]? = some (.cells cs T (0, 0))) (i : Nat) : w.cell? ⟨b, i, none⟩ = cs[i]? := cell_of_row w b i cs T (0, 0) h
theorem free_blk {b : Nat} {T : TypeId} {cs : Array Value} (h : w.heap[b]? = some (.cells cs T (0, 0))) (i : Nat) : w.frozen? ⟨b, i, none⟩ = false := by
  simp [World.frozen?, h]
theorem Kept.below {i : Nat} (h : Kept (isOld ops its i) w0 w) (hno : noOlds its = true) : Below w0.heap.size w0 w :=
  ⟨h.os, h.tape, h.output, h.size, fun b hb => h.block b hb (noOlds_isOld hno i b)⟩
end
end Go.Proofs.YteefjegampdpoaaDoor.E.R
end
