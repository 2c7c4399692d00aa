/-
  Part of a claim: the reckoner and contracts.
-/
import Derived.Test.YtmelbcmfahcffaaLTa
set_option linter.unusedVariables false
set_option linter.unusedSimpArgs false
set_option maxRecDepth 100000
section
namespace Go.Proofs.Ytmelbcmfahcffaa.E2
open Go Go.RowKit
theorem rangesIn_seg : ∀ (x : Code) (i : Nat) (ps : Array Tmp) (a y : Code), (rangesIn x)[i]? = some (ps, a, y) → ∀ (j : Nat) z, (rangesIn y)[j]? = some z → (rangesIn x)[i + 1 + j]? = some z
  | .rangeFunc g qs u v, 0, ps, a, y, h, j, z, hz => by
    simp only [rangesIn, List.getElem?_cons_zero, Option.some.injEq, Prod.mk.injEq] at h
    obtain ⟨_, _, rfl⟩ := h
    simp only [rangesIn]
    rw [show 0 + 1 + j = j + 1 by omega, List.getElem?_cons_succ]
    exact hz
  | .rangeFunc g qs u v, i + 1, ps, a, y, h, j, z, hz => by
    simp only [rangesIn, List.getElem?_cons_succ] at h
    have := rangesIn_seg v i ps a y h j z hz
    simp only [rangesIn]
    rw [show i + 1 + 1 + j = (i + 1 + j) + 1 by omega, List.getElem?_cons_succ]
    exact this
  | .loop x, i, ps, a, y, h, j, z, hz => rangesIn_seg x i ps a y h j z hz
  | .block _ x, i, ps, a, y, h, j, z, hz => rangesIn_seg x i ps a y h j z hz
  | .scope x, i, ps, a, y, h, j, z, hz => rangesIn_seg x i ps a y h j z hz
  | .seq u v, i, ps, a, y, h, j, z, hz => by
    simp only [rangesIn] at h ⊢
    rcases Nat.lt_or_ge i (rangesIn u).length with hlt | hge
    · rw [List.getElem?_append_left hlt] at h
      have := rangesIn_seg u i ps a y h j z hz
      rw [List.getElem?_append_left (List.getElem?_eq_some_iff.1 this).1]
      exact this
    · rw [List.getElem?_append_right hge] at h
      have := rangesIn_seg v _ ps a y h j z hz
      rw [List.getElem?_append_right (by omega), show i + 1 + j - (rangesIn u).length = i - (rangesIn u).length + 1 + j by omega]
      exact this
  | .cond _ u v, i, ps, a, y, h, j, z, hz => by
    simp only [rangesIn] at h ⊢
    rcases Nat.lt_or_ge i (rangesIn u).length with hlt | hge
    · rw [List.getElem?_append_left hlt] at h
      have := rangesIn_seg u i ps a y h j z hz
      rw [List.getElem?_append_left (List.getElem?_eq_some_iff.1 this).1]
      exact this
    · rw [List.getElem?_append_right hge] at h
      have := rangesIn_seg v _ ps a y h j z hz
      rw [List.getElem?_append_right (by omega), show i + 1 + j - (rangesIn u).length = i - (rangesIn u).length + 1 + j by omega]
      exact this
  | .skip, i, ps, a, y, h, j, z, hz => by simp [rangesIn] at h
  | .label _, i, ps, a, y, h, j, z, hz => by simp [rangesIn] at h
  | .exit _, i, ps, a, y, h, j, z, hz => by simp [rangesIn] at h
  | .ret, i, ps, a, y, h, j, z, hz => by simp [rangesIn] at h
  | .goto _, i, ps, a, y, h, j, z, hz => by simp [rangesIn] at h
  | .refuse _, i, ps, a, y, h, j, z, hz => by simp [rangesIn] at h
  | .region _ _ _, i, ps, a, y, h, j, z, hz => by simp [rangesIn] at h
theorem rangeAt_seg {P : Program} {f i : Nat} : ∀ (j : Nat) z, (rangesIn (rangeAt P f i).2.2)[j]? = some z → rangeAt P f (i + 1 + j) = z := by
  intro j z hz
  unfold rangeAt at hz ⊢
  split at hz
  · rename_i fn hf
    split at hz
    · rename_i b hb
      cases hx : (rangesIn b)[i]? with
      | none =>
        rw [List.getD_eq_getElem?_getD, hx] at hz
        simp [rangesIn] at hz
      | some x =>
        rw [List.getD_eq_getElem?_getD, hx] at hz
        have := rangesIn_seg b i x.1 x.2.1 x.2.2 hx j z hz
        rw [List.getD_eq_getElem?_getD, this]
        rfl
    · simp [rangesIn] at hz
  · simp [rangesIn] at hz
section
variable {c : Cfg}
theorem evYld_sound (hm : c.P.follows .mixedOrders = true) (hfn : ∀ f, c.fns f = true → Callable c.P f) {cf : CF} (hcf : CallOk c cf) {b : Nat} {args : List V} {h : Heap} {lim : Nat} {ans : List Ans} {out : Out} (he : evYld c cf b args h lim ans = some out) (hc : ∀ p ∈ out.cons, p) (hL : c.L ≤ lim) (hl : lim ≤ h.length) {ρ : Ren} {w : World} (RH : RelH c ρ h w) (hu : unders h.length args = true) :
    ∃ r, h[b]? = some (some (.rcd r)) ∧ args.length = (rangeAt c.P r.f r.i).1.size ∧ ∀ fn u D, w.heap[(ρ.blk b).n]? = some (.loop (r.loop c.P ρ fn u D)) →
      RoundIn Fence.wide 0 c.P (ρ.blk b).n fn (((rangeAt c.P r.f r.i).1.zip (concs ρ args).toArray).foldl (fun tmps (t, a) => tmps.setIfInBounds t a) (concs ⟨ρ.blk, u⟩ r.t).toArray) (rangeAt c.P r.f r.i).2.1 (rangeAt c.P r.f r.i).2.2 w (Post c lim ρ h w out.v out.h) := by
  unfold evYld at he
  split at he
  · rename_i r hb
    have hbl := lt_len hb
    split at he
    · rename_i hst
      split at he
      · rename_i hh
        obtain ⟨h1, h2, h3⟩ := hh
        split at he
        · rename_i o1 ho1
          split at he
          · rename_i r1 he1 hr1
            split at he
            · rename_i hst1
              split at he
              · rename_i o2 ho2
                split at he
                · rename_i r2 hr2
                  have fin : ∃ s bv, out = ⟨.raw (.bool bv), o2.h.set b (some (.rcd { r2 with st := s })), o2.ans, o1.cons ++ o2.cons⟩ ∧ ((o2.e = .normal ∧ s = .ready ∧ bv = true) ∨ (o2.e ≠ .normal ∧ s = .done o2.e ∧ bv = false)) := by
                    split at he
                    · rename_i hn
                      simp only [Option.some.injEq] at he
                      exact ⟨_, _, he.symm, .inl ⟨hn, rfl, rfl⟩⟩
                    · rename_i hn
                      simp only [Option.some.injEq] at he
                      exact ⟨_, _, he.symm, .inr ⟨fun e => hn e, rfl, rfl⟩⟩
                  obtain ⟨s, bv, rfl, hcase⟩ := fin
                  refine ⟨r, hb, h2, fun fn u D hw => ?_⟩
                  have hsco := RH.sco b _ hb
                  simp only [Blk.under] at hsco
                  generalize hps : (rangeAt c.P r.f r.i).1 = ps at *
                  -- the round's slots
                  have hT0 : (ps.zip (concs ρ args).toArray).foldl (fun tmps (x : Tmp × Value) => tmps.setIfInBounds x.1 x.2) (concs ⟨ρ.blk, u⟩ r.t).toArray = (concs ⟨ρ.blk, u⟩ ((ps.toList.zip args).foldl (fun t p => t.set p.1 p.2) r.t)).toArray ∧ ((ps.toList.zip args).foldl (fun t p => t.set p.1 p.2) r.t).all (·.slotOk h.length) = true := by
                    rw [← Array.foldl_toList, Array.toList_zip]
                    have gen : ∀ (l : List Tmp) (zl : List V) (t : List V), unders h.length zl = true → t.all (·.slotOk h.length) = true →
                        (l.zip (concs ρ zl)).foldl (fun tmps (x : Tmp × Value) => tmps.setIfInBounds x.1 x.2) (concs ⟨ρ.blk, u⟩ t).toArray = (concs ⟨ρ.blk, u⟩ ((l.zip zl).foldl (fun t p => t.set p.1 p.2) t)).toArray ∧ ((l.zip zl).foldl (fun t p => t.set p.1 p.2) t).all (·.slotOk h.length) = true := by
                      intro l
                      induction l with
                      | nil => intro zl t _ ht; exact ⟨rfl, ht⟩
                      | cons x l ih =>
                        intro zl t ha ht
                        cases zl with
                        | nil => exact ⟨by simp [concs], by simpa using ht⟩
                        | cons v zl =>
                          simp only [unders, Bool.and_eq_true] at ha
                          have ht' : (t.set x v).all (·.slotOk h.length) = true := List.all_eq_true.2 fun y hy => by
                            rcases List.mem_or_eq_of_mem_set hy with h5 | rfl
                            · exact List.all_eq_true.1 ht y h5
                            · exact V.slot_of_under _ ha.1
                          obtain ⟨i1, i2⟩ := ih zl (t.set x v) ha.2 ht'
                          refine ⟨?_, i2⟩
                          simp only [concs, List.zip_cons_cons, List.foldl_cons]
                          rw [← i1]
                          congr 1
                          rw [concs_set]
                          simp only [List.setIfInBounds_toArray]
                          rw [V.conc_agree (ρ := ρ) (ρ' := ⟨ρ.blk, u⟩) (fun _ _ => rfl) v ha.1]
                    exact gen ps.toList args r.t hu hsco
                  have RHu : RelH c ⟨ρ.blk, u⟩ h w := relH_unk RH u
                  refine roundIn_of_wpIn (F := Fence.wide) trivial ?_
                  have run1 := evCode_sound hm hcf hfn hL (rnd := some b) _ _ _ _ _ _ ho1 (fun p hp => hc p (List.mem_append_left _ hp)) hl (fun b' e => by cases e; exact hbl) (fun j x hx => by
                    rw [List.isEmpty_iff] at h3
                    rw [h3] at hx
                    simp at hx)
                  have hF : Fence.wide.inRound (ρ.blk b).n = FW (rndOf ⟨ρ.blk, u⟩ (some b)) := rfl
                  rw [hF]
                  have RT0 : RelT ⟨ρ.blk, u⟩ h.length ((ps.toList.zip args).foldl (fun t p => t.set p.1 p.2) r.t) { tmps := (ps.zip (concs ρ args).toArray).foldl (fun tmps (x : Tmp × Value) => tmps.setIfInBounds x.1 x.2) (concs ⟨ρ.blk, u⟩ r.t).toArray, defers := [] } :=
                    ⟨hT0.1, fun x hx => List.all_eq_true.1 hT0.2 x hx⟩
                  refine run1.go RT0 RHu fun ρ1 a1 w1 ms1 d1 M1 RT1 RH1 F1 => ?_
                  rw [he1]
                  have hb1 : ρ1.blk b = ρ.blk b := F1.ren b hbl
                  obtain ⟨hn1, fn1, u1, D1, g1⟩ := RH1.cell b _ hr1
                  have hbeg := run_beginRound (P := c.P) g1 (by simp only [Rec.loop, hst1]; rfl)
                  obtain ⟨p1, p2, p3⟩ := putObj_rel (lim := lim) RH1 (X := some (.rcd { r1 with st := .busy })) (o := .loop { r1.loop c.P ρ1 fn1 u1 D1 with state := .busy }) hr1 (by omega) h1 (fun B' e => by
                    cases e
                    have hsc1 : (Blk.rcd r1).under o1.h.length = true := RH1.sco b _ hr1
                    refine ⟨hsc1, fun hw' => ⟨hn1, fn1, u1, D1, hw'.trans ?_⟩⟩
                    simp only [Rec.loop, hst1, RSt.state, RSt.pend])
                  rw [hb1] at hbeg p1 p2 p3
                  refine ⟨_, hbeg, ?_⟩
                  generalize (w1.putObj (ρ.blk b).n (.loop { r1.loop c.P ρ1 fn1 u1 D1 with state := .busy })) = w2 at p1 p2 p3
                  have F12 := F1.trans (p2.fewer F1.len hl)
                  have run2 := evCode_sound hm hcf hfn hL (rnd := some b) _ _ _ _ _ _ ho2 (fun p hp => hc p (List.mem_append_right _ hp)) (by rw [List.length_set]; exact Nat.le_trans hl F1.len) (fun b' e => by cases e; rw [List.length_set]; exact Nat.lt_of_lt_of_le hbl F1.len) (fun j x hx => rangeAt_seg j x hx)
                  have RT1' : RelT ρ1 (o1.h.set b (some (.rcd { r1 with st := .busy }))).length o1.t a1 := by rw [List.length_set]; exact RT1
                  have hF' : FW (rndOf ⟨ρ.blk, u⟩ (some b)) = FW (rndOf ρ1 (some b)) := by simp only [rndOf, Option.map_some, hb1]
                  rw [hF']
                  refine run2.go RT1' p1 fun ρ2 a2 w3 ms2 d2 M2 RT2 RH2 F2 => ?_
                  have hb2 : ρ2.blk b = ρ.blk b := by rw [F2.ren b (by rw [List.length_set]; exact Nat.lt_of_lt_of_le hbl F1.len), hb1]
                  obtain ⟨hn2, fn2, u2, D2, g2⟩ := RH2.cell b _ hr2
                  rw [hb2] at g2
                  have close : ∀ (j : Option Code) , (s.state = (if j.isNone then .ready else .done)) → s.pend = j → bv = j.isNone → ∃ v w', (Instr.endRound (ρ.blk b).n j).run c.P w3 = .ok v w' ∧ Post c lim ρ h w (.raw (.bool bv)) (o2.h.set b (some (.rcd { r2 with st := s }))) (.returned v) w' := fun j j1 j2 j3 => by
                    refine ⟨_, _, run_endRound j g2, ?_⟩
                    obtain ⟨q1, q2, q3⟩ := putObj_rel (lim := lim) RH2 (X := some (.rcd { r2 with st := s })) (o := .loop { r2.loop c.P ρ2 fn2 u2 D2 with state := if j.isNone then .ready else .done, pending := j }) hr2 (by omega) h1 (fun B' e => by
                      cases e
                      have hsc2 : (Blk.rcd r2).under o2.h.length = true := RH2.sco b _ hr2
                      refine ⟨hsc2, fun hw' => ⟨hn2, fn2, u2, D2, hw'.trans ?_⟩⟩
                      simp only [Rec.loop, j1, j2])
                    rw [hb2] at q1 q2
                    have F23 := (F2.fewer (m := h.length) (by rw [List.length_set]; exact F1.len) hl).trans (q2.fewer (Nat.le_trans F1.len (by have := F2.len; rw [List.length_set] at this; exact this)) hl)
                    have Fall := F12.trans F23
                    exact ⟨⟨ρ2.blk, ρ.unk⟩, rfl, by simp only [V.conc, j3], relH_unk q1 _, (Fall.unk ρ.unk).unk0, rfl⟩
                  rcases hcase with ⟨e1, rfl, rfl⟩ | ⟨e1, rfl, rfl⟩
                  · rw [e1]
                    exact close none rfl rfl rfl
                  · cases hoe : o2.e with
                    | normal => exact absurd hoe e1
                    | exit id =>
                      rw [hoe] at close
                      exact close (some (.exit id)) rfl rfl rfl
                    | ret =>
                      rw [hoe] at close
                      exact close (some .ret) rfl rfl rfl
                · cases he
              · cases he
            · cases he
          · cases he
        · cases he
      · cases he
    · cases he
  · cases he
theorem leaves_marks {fn : Func} {tmps : Array Value} {R : Ending → World → Prop} {lim : Nat} {ρ0 ρ : Ren} {h0 h : Heap} {w0 : World} {n : Nat} : ∀ (Ds : List Nat) (w : World), Ds.Nodup → (∀ D ∈ Ds, w0.heap.size ≤ D ∧ w.heap[D]? = some (.deferred (some []))) → RelH c ρ h w → Fr lim n ρ0 h0 w0 ρ h w →
    (∀ w', RelH c ρ h w' → Fr lim n ρ0 h0 w0 ρ h w' → ∃ v, (results fn tmps).run c.P w' = .ok v w' ∧ R (.returned v) w') → LeavesInM Fence.wide 0 c.P fn tmps R (Ds.map markOf) .returning w
  | [], w, _, _, RH, F, hR => hR w RH F
  | D :: Ds, w, hnd, hD, RH, F, hR => by
    rw [List.nodup_cons] at hnd
    obtain ⟨h1, h2⟩ := hD D List.mem_cons_self
    refine ⟨by simp, .inl ⟨D, w.putObj D (.deferred none), rfl, run_takeDeferred h2, ?_⟩⟩
    have hne : ∀ i, lv ρ h i → (ρ.blk i).n ≠ D := fun i ⟨B, k1, k2⟩ e => (RH.cell i B k1).notDfr k2 (by rw [e]; exact h2)
    refine leaves_marks Ds _ hnd.2 (fun E hE => ?_) ?_ ?_ hR
    · obtain ⟨k1, k2⟩ := hD E (List.mem_cons_of_mem _ hE)
      exact ⟨k1, by rw [World.putObj_heap_other (fun e => hnd.1 (by rw [← e]; exact hE)), k2]⟩
    · exact ⟨fun i B hi => (RH.cell i B hi).move (RH.sco i B hi) (fun _ _ => rfl) fun hn => World.putObj_heap_other (hne i ⟨B, hi, hn⟩), RH.inj, RH.sco, RH.glob, RH.big, RH.base⟩
    · exact ⟨F.os, F.tape, F.output, by simpa using F.size, fun k hk hn => by rw [World.putObj_heap_other (by omega)]; exact F.blk k hk hn, F.ren, F.len, F.fresh, F.dead⟩
theorem evYlds_sound (hm : c.P.follows .mixedOrders = true) (hfn : ∀ f, c.fns f = true → Callable c.P f) {call : FuncId → List V → Heap → Nat → List Ans → Option Out}
    (hcall : ∀ f args h lim ans out, call f args h lim ans = some out → (∀ p ∈ out.cons, p) → c.L ≤ lim → lim ≤ h.length → ∀ ρ w, RelH c ρ h w → unders h.length args = true → Calls c.P f (concs ρ args).toArray w (Post c lim ρ h w out.v out.h)) : ∀ m, CallOk c ⟨call, evYlds c call m⟩
  | 0 => ⟨hcall, fun b args h lim ans out he => by cases he⟩
  | m + 1 => ⟨hcall, fun b args h lim ans out he hc hL hl ρ w RH hu => evYld_sound hm hfn (evYlds_sound hm hfn hcall m) he hc hL hl RH hu⟩
theorem evFunc_sound (hm : c.P.follows .mixedOrders = true) (hfn : ∀ f, c.fns f = true → Callable c.P f) : ∀ n f args h lim ans out, evFunc c n f args h lim ans = some out → (∀ p ∈ out.cons, p) → c.L ≤ lim → lim ≤ h.length → ∀ ρ w, RelH c ρ h w → unders h.length args = true → Calls c.P f (concs ρ args).toArray w (Post c lim ρ h w out.v out.h) := by
  intro n
  induction n with
  | zero => intro f args h lim ans out he; simp [evFunc] at he
  | succ n ih =>
    intro f args h lim ans out he hc hL hl ρ w RH hu
    simp only [evFunc] at he
    split at he
    · simp only [Option.some.injEq] at he
      subst he
      exact (hc _ List.mem_cons_self) _ _ hL hl ρ w RH hu
    · simp only [Option.some.injEq] at he
      subst he
      exact (hc _ List.mem_cons_self) ρ w RH hu
    · split at he
      · cases he
      · rename_i ans1 _
        split at he
        · cases he
        · rename_i fn hf
          split at he
          · cases he
          · rename_i code hb
            split at he
            · cases he
            · rename_i r hr
              have fin : ∀ {vs : List V}, (∀ i, r.e ≠ .exit i) → resultsV c r.t r.h fn.results.toList = some vs → out = ⟨oneOf vs, r.h, r.ans, r.cons⟩ → Calls c.P f (concs ρ args).toArray w (Post c lim ρ h w out.v out.h) := by
                intro vs hne hvs ho
                subst ho
                have hrun := evCode_sound hm (evYlds_sound hm hfn ih 3) hfn hL (rnd := none) code 0 _ _ _ _ hr hc hl (fun b e => by cases e) (fun j x hx => by
                  unfold rangeAt
                  rw [hf]
                  simp only [hb]
                  rw [Nat.zero_add, List.getD_eq_getElem?_getD, hx]
                  rfl)
                have htm : (concs ρ args).toArray ++ Array.replicate (fn.ntmps - (concs ρ args).toArray.size) undef = (concs ρ (args ++ List.replicate (fn.ntmps - args.length) (.raw undef))).toArray := by
                  apply Array.toList_inj.1
                  simp [concs_map, V.conc]
                refine (callsIn_wide (n := 0)).1 (callsIn_of_wp_marks hf hb trivial ?_)
                rw [htm]
                refine hrun.go (ρ := ρ) ⟨rfl, fun x hx => ?_⟩ RH fun ρ1 a1 w1 ms d1 M1 RT1 RH1 F1 => ?_
                · rcases List.mem_append.1 hx with h1 | h1
                  · exact V.slot_of_under _ ((unders_iff _ _).1 hu x h1)
                  · rw [List.eq_of_mem_replicate h1]; rfl
                · obtain ⟨Ds, rfl, m2, m3⟩ := M1
                  simp only [List.append_nil] at d1
                  have out1 : LeavesInM Fence.wide 0 c.P fn a1.tmps (Post c lim ρ h w (oneOf vs) r.h) (Ds.map markOf) .returning w1 := by
                    refine leaves_marks Ds w1 m2 m3 RH1 F1 fun w' RH' F' => ?_
                    obtain ⟨h1, h2⟩ := results_ok RH' RT1 hvs
                    exact ⟨_, h1, ⟨ρ1.blk, ρ.unk⟩, rfl, by rw [V.conc_agree (ρ := ρ1) (ρ' := ⟨ρ1.blk, ρ.unk⟩) (fun _ _ => rfl) _ h2], relH_unk RH' _, F'.unk _, h2⟩
                  cases he : r.e with
                  | exit i => exact absurd he (hne i)
                  | normal => show LeavesInM _ _ _ _ _ _ a1.defers _ _; rw [d1]; exact out1
                  | ret => show LeavesInM _ _ _ _ _ _ a1.defers _ _; rw [d1]; exact out1
              split at he
              · cases he
              · rename_i hne
                split at he
                · cases he
                · rename_i vs hvs
                  simp only [Option.some.injEq] at he
                  exact fin hne hvs he.symm
def Paid : List Prop → Prop
  | [] => True
  | p :: l => p ∧ Paid l
theorem Paid.all : ∀ {l : List Prop}, Paid l → ∀ p ∈ l, p
  | [], _, p, hp => by cases hp
  | q :: l, h, p, hp => by
    rcases List.mem_cons.1 hp with rfl | hp
    · exact h.1
    · exact Paid.all h.2 p hp
theorem meets_of (hm : c.P.follows .mixedOrders = true) (hfn : ∀ f, c.fns f = true → Callable c.P f) {lim : Nat} (hL : c.L ≤ lim) {n : Nat} {f : FuncId} {args : List V} {h h' : Heap} (hl : lim ≤ h.length) {ans ans' : List Ans} {v : V} {cons : List Prop}
    (he : evFunc c n f args h lim ans = some ⟨v, h', ans', cons⟩) (hc : Paid cons) : Meets c lim f args h v h' :=
  fun ρ w RH hu => evFunc_sound hm hfn n f args h lim ans _ he (fun p hp => hc.all p hp) hL hl ρ w RH hu
end
end Go.Proofs.Ytmelbcmfahcffaa.E2
end
section
namespace Go.Proofs.Ytmelbcmfahcffaa.E2
open Go Go.RowKit
mutual
def V.mv (τ : Nat → Nat) (nl : Nat → Bool) : V → V
  | .raw v => .raw v
  | .any k => .any k
  | .ptr b o => .ptr (τ b) o
  | .slo b l => match nl b with
    | true => .raw (.slice none 0 0)
    | false => .slo (τ b) l
  | .yld b => .yld (τ b)
  | .fn f x y => .fn f (mvs τ nl x) (mvs τ nl y)
  | .agg l => .agg (mvs τ nl l)
  | .tup l => .tup (mvs τ nl l)
  | .lit b => .lit b
def mvs (τ : Nat → Nat) (nl : Nat → Bool) : List V → List V
  | [] => []
  | x :: l => x.mv τ nl :: mvs τ nl l
end
mutual
def V.nilOk (nl : Nat → Bool) : V → Bool
  | .raw _ => true
  | .any _ => true
  | .ptr b _ => !nl b
  | .slo b l => match nl b with
    | true => l == 0
    | false => true
  | .yld b => !nl b
  | .fn _ x y => nilOks nl x && nilOks nl y
  | .agg l => nilOks nl l
  | .tup l => nilOks nl l
  | .lit _ => true
def nilOks (nl : Nat → Bool) : List V → Bool
  | [] => true
  | x :: l => x.nilOk nl && nilOks nl l
end
def Moved (τ : Nat → Nat) (nl : Nat → Bool) (ρ ρ' : Ren) : Prop := ∀ i, (nl i = true → (ρ'.blk i).nil = true) ∧ (nl i = false → ρ'.blk i = ρ.blk (τ i))
mutual
theorem V.mv_conc {τ : Nat → Nat} {nl : Nat → Bool} {ρ ρ' : Ren} (h : Moved τ nl ρ ρ') (hu : ρ'.unk = ρ.unk) : ∀ x : V, x.nilOk nl = true → x.conc ρ' = (x.mv τ nl).conc ρ
  | .raw v, _ => rfl
  | .any k, _ => by simp only [V.conc, V.mv, hu]
  | .ptr b o, hx => by
    simp only [V.nilOk, Bool.not_eq_true'] at hx
    simp only [V.conc, V.mv, (h b).2 hx]
  | .slo b l, hx => by
    simp only [V.nilOk] at hx
    simp only [V.mv]
    cases hb : nl b with
    | true =>
      rw [hb] at hx
      have : l = 0 := by simpa using hx
      subst this
      simp only [V.conc, slcOf, (h b).1 hb, and_self, if_true]
    | false => simp only [V.conc, (h b).2 hb]
  | .yld b, hx => by
    simp only [V.nilOk, Bool.not_eq_true'] at hx
    simp only [V.conc, V.mv, (h b).2 hx]
  | .fn f x y, hx => by
    simp only [V.nilOk, Bool.and_eq_true] at hx
    simp only [V.conc, V.mv, mvs_conc h hu x hx.1, mvs_conc h hu y hx.2]
  | .agg l, hx => by simp only [V.nilOk] at hx; simp only [V.conc, V.mv, mvs_conc h hu l hx]
  | .tup l, hx => by simp only [V.nilOk] at hx; simp only [V.conc, V.mv, mvs_conc h hu l hx]
  | .lit b, _ => rfl
theorem mvs_conc {τ : Nat → Nat} {nl : Nat → Bool} {ρ ρ' : Ren} (h : Moved τ nl ρ ρ') (hu : ρ'.unk = ρ.unk) : ∀ l : List V, nilOks nl l = true → concs ρ' l = concs ρ (mvs τ nl l)
  | [], _ => rfl
  | x :: l, hx => by
    simp only [nilOks, Bool.and_eq_true] at hx
    simp only [concs, mvs, V.mv_conc h hu x hx.1, mvs_conc h hu l hx.2]
end
theorem mvs_length (τ : Nat → Nat) (nl : Nat → Bool) : ∀ l : List V, (mvs τ nl l).length = l.length
  | [] => rfl
  | x :: l => by simp [mvs, mvs_length τ nl l]
theorem mvs_raw (τ : Nat → Nat) (nl : Nat → Bool) : ∀ l : List V, l.all isRawV = true → mvs τ nl l = l
  | [], _ => rfl
  | x :: l, h => by
    simp only [List.all_cons, Bool.and_eq_true] at h
    simp only [mvs, mvs_raw τ nl l h.2]
    cases x <;> first | rfl | simp [isRawV] at h
theorem nilOks_raw (nl : Nat → Bool) : ∀ l : List V, l.all isRawV = true → nilOks nl l = true
  | [], _ => rfl
  | x :: l, h => by
    simp only [List.all_cons, Bool.and_eq_true] at h
    simp only [nilOks, nilOks_raw nl l h.2, Bool.and_true]
    cases x <;> first | rfl | simp [isRawV] at h
theorem unders_raws (n : Nat) : ∀ l : List V, l.all isRawV = true → unders n l = true
  | [], _ => rfl
  | x :: l, h => by
    simp only [List.all_cons, Bool.and_eq_true] at h
    simp only [unders, unders_raws n l h.2, Bool.and_true]
    cases x <;> first | rfl | simp [isRawV] at h
def Blk.mv (τ : Nat → Nat) (nl : Nat → Bool) : Blk → Blk
  | .cells cs ty own => .cells (mvs τ nl cs) ty own
  | .rcd r => .rcd { r with t := mvs τ nl r.t }
def Blk.nilOk (nl : Nat → Bool) : Blk → Bool
  | .cells cs _ _ => nilOks nl cs
  | .rcd r => nilOks nl r.t
def Blk.le (B B' : Blk) : Prop := B = B' ∨ ∃ cs ty own, B = .cells cs ty .ro ∧ B' = .cells cs ty own
theorem BlkOk.le {P : Program} {ρ : Ren} {l : Loc} {w : World} {B B' : Blk} (hl : B.le B') (h : BlkOk P ρ l w B') : BlkOk P ρ l w B := by
  rcases hl with rfl | ⟨cs, ty, own, rfl, rfl⟩
  · exact h
  · refine ⟨h.nil, fun hn => ?_, fun sz hsz => (by cases hsz)⟩
    obtain ⟨fr, h6, _⟩ := h.row hn
    exact ⟨fr, h6, fun hro => absurd rfl hro⟩
theorem BlkOk.mv {P : Program} {τ : Nat → Nat} {nl : Nat → Bool} {ρ ρ' : Ren} (h : Moved τ nl ρ ρ') {l : Loc} {w : World} {B : Blk} {n : Nat} (hun : B.under n = true) (hn : B.nilOk nl = true) : BlkOk P ρ l w (B.mv τ nl) ↔ BlkOk P ρ' l w B := by
  cases B with
  | cells cs ty own =>
    have e : concs ρ' cs = concs ρ (mvs τ nl cs) := by
      have := mvs_conc (ρ := ρ) (ρ' := ⟨ρ'.blk, ρ.unk⟩) h rfl cs hn
      rw [← this]
      exact concs_agree (ρ := ⟨ρ'.blk, ρ.unk⟩) (ρ' := ρ') (n := n) (fun _ _ => rfl) cs hun
    constructor
    · intro hb
      refine ⟨fun hl => ?_, fun hl => ?_, fun sz hs => ?_⟩
      · have := hb.nil hl
        exact List.eq_nil_of_length_eq_zero (by rw [← mvs_length τ nl cs, this]; rfl)
      · obtain ⟨fr, h1, h2⟩ := hb.row hl
        exact ⟨fr, by rw [e]; exact h1, h2⟩
      · obtain ⟨h1, h2⟩ := hb.room sz hs
        exact ⟨h1, fun hl => by rw [← mvs_length τ nl cs]; exact h2 hl⟩
    · intro hb
      refine ⟨fun hl => ?_, fun hl => ?_, fun sz hs => ?_⟩
      · rw [hb.nil hl]; rfl
      · obtain ⟨fr, h1, h2⟩ := hb.row hl
        exact ⟨fr, by rw [← e]; exact h1, h2⟩
      · obtain ⟨h1, h2⟩ := hb.room sz hs
        exact ⟨h1, fun hl => by rw [mvs_length]; exact h2 hl⟩
  | rcd r =>
    have e : ∀ u, concs ⟨ρ'.blk, u⟩ r.t = concs ⟨ρ.blk, u⟩ (mvs τ nl r.t) := fun u => mvs_conc (ρ := ⟨ρ.blk, u⟩) (ρ' := ⟨ρ'.blk, u⟩) h rfl r.t hn
    constructor
    · rintro ⟨h1, fn, u, D, h2⟩
      refine ⟨h1, fn, u, D, ?_⟩
      rw [h2]
      simp only [Rec.loop, e u]
    · rintro ⟨h1, fn, u, D, h2⟩
      refine ⟨h1, fn, u, D, ?_⟩
      rw [h2]
      simp only [Rec.loop, e u]
def anyOwn : Nat → List V → Bool
  | _, [] => true
  | i, .any j :: l => decide (j = i) && anyOwn (i + 1) l
  | i, _ :: l => anyOwn (i + 1) l
theorem anyOwn_get : ∀ (l : List V) (k i j : Nat), anyOwn k l = true → l[i]? = some (.any j) → j = k + i
  | [], k, i, j, h, hg => by simp at hg
  | v :: l, k, 0, j, h, hg => by
    simp only [List.getElem?_cons_zero, Option.some.injEq] at hg
    subst hg
    simp only [anyOwn, Bool.and_eq_true, decide_eq_true_eq] at h
    omega
  | v :: l, k, i + 1, j, h, hg => by
    simp only [List.getElem?_cons_succ] at hg
    have h' : anyOwn (k + 1) l = true := by
      cases v with
      | any q => simp only [anyOwn, Bool.and_eq_true] at h; exact h.2
      | _ => simpa only [anyOwn] using h
    have := anyOwn_get l (k + 1) i j h' hg
    omega
def hideBy : List V → List V → List V
  | .any k :: l, _ :: m => .any k :: hideBy l m
  | _ :: l, v :: m => v :: hideBy l m
  | [], m => m
  | _, [] => []
theorem hideBy_get : ∀ (l m : List V), l.length = m.length → ∀ i : Nat, (hideBy l m)[i]? = (match (l[i]? : Option V) with
    | some (V.any k) => some (V.any k)
    | _ => m[i]?)
  | [], [], _, i => by simp [hideBy]
  | [], y :: m, h, i => by simp at h
  | x :: l, [], h, i => by simp at h
  | x :: l, y :: m, h, 0 => by cases x <;> simp [hideBy]
  | x :: l, y :: m, h, i + 1 => by
    have := hideBy_get l m (by simpa using h) i
    cases x <;> simpa [hideBy] using this
def tauOf (n0 : Nat) (ks : List (Option Nat)) (j : Nat) : Nat := if j < n0 then j else (ks[j - n0]?).join.getD 0
def nlOf (n0 : Nat) (ks : List (Option Nat)) (j : Nat) : Bool := decide (n0 ≤ j) && (match ks[j - n0]? with
  | some none => true
  | _ => false)
def keysOk (lim n0 m : Nat) (H : Heap) : List (Option Nat) → Bool
  | [] => true
  | none :: l => keysOk lim n0 m H l
  | some b :: l => decide (lim ≤ b) && decide (b < m) && (!decide (b < n0) || match H[b]? with
      | some (some _) => false
      | _ => true) && !l.contains (some b) && keysOk lim n0 m H l
def nilB : Blk → Prop
  | .cells [] _ (.row _) => True
  | _ => False
def entries (τ : Nat → Nat) (nl : Nat → Bool) (h : Heap) (m : Nat) : Nat → Heap → List Prop
  | _, [] => []
  | j, none :: l => entries τ nl h m (j + 1) l
  | j, some B :: l => (match nl j with
      | true => nilB B
      | false => h[τ j]? = some (some (B.mv τ nl))) :: (B.under m = true) :: (B.nilOk nl = true) :: entries τ nl h m (j + 1) l
theorem entries_get {τ : Nat → Nat} {nl : Nat → Bool} {h : Heap} {m : Nat} : ∀ (l : Heap) (j : Nat), Paid (entries τ nl h m j l) → ∀ i B, l[i]? = some (some B) → (match nl (j + i) with
      | true => nilB B
      | false => h[τ (j + i)]? = some (some (B.mv τ nl))) ∧ B.under m = true ∧ B.nilOk nl = true
  | [], j, hp, i, B, hB => by simp at hB
  | none :: l, j, hp, 0, B, hB => by simp at hB
  | none :: l, j, hp, i + 1, B, hB => by
    have := entries_get l (j + 1) hp i B (by simpa using hB)
    rwa [show j + 1 + i = j + (i + 1) by omega] at this
  | some C :: l, j, hp, 0, B, hB => by
    simp only [List.getElem?_cons_zero, Option.some.injEq] at hB
    subst hB
    exact ⟨hp.1, hp.2.1, hp.2.2.1⟩
  | some C :: l, j, hp, i + 1, B, hB => by
    have := entries_get l (j + 1) hp.2.2.2 i B (by simpa using hB)
    rwa [show j + 1 + i = j + (i + 1) by omega] at this
theorem keysOk_get {lim n0 m : Nat} {H : Heap} : ∀ (ks : List (Option Nat)), keysOk lim n0 m H ks = true → (∀ (i b : Nat), ks[i]? = some (some b) → lim ≤ b ∧ b < m ∧ (b < n0 → ∀ B, H[b]? ≠ some (some B))) ∧ ∀ (i j b : Nat), ks[i]? = some (some b) → ks[j]? = some (some b) → i = j
  | [], _ => ⟨fun i b h => by simp at h, fun i j b h => by simp at h⟩
  | none :: l, h => by
    obtain ⟨h1, h2⟩ := keysOk_get l h
    refine ⟨fun i b hi => ?_, fun i j b hi hj => ?_⟩
    · cases i with
      | zero => simp at hi
      | succ i => exact h1 i b (by simpa using hi)
    · cases i with
      | zero => simp at hi
      | succ i => cases j with
        | zero => simp at hj
        | succ j => rw [h2 i j b (by simpa using hi) (by simpa using hj)]
  | some x :: l, h => by
    simp only [keysOk, Bool.and_eq_true, decide_eq_true_eq, Bool.or_eq_true, Bool.not_eq_true', decide_eq_false_iff_not] at h
    obtain ⟨⟨⟨⟨k1, k2⟩, k3⟩, k4⟩, k5⟩ := h
    obtain ⟨h1, h2⟩ := keysOk_get l k5
    have no : ∀ i : Nat, l[i]? ≠ some (some x) := fun i hi => by
      have := List.mem_of_getElem? hi
      rw [← List.contains_iff_mem, k4] at this
      cases this
    refine ⟨fun i b hi => ?_, fun i j b hi hj => ?_⟩
    · cases i with
      | zero =>
        simp only [List.getElem?_cons_zero, Option.some.injEq] at hi
        subst hi
        refine ⟨k1, k2, fun hlt B hB => ?_⟩
        rcases k3 with k3 | k3
        · exact k3 hlt
        · rw [hB] at k3; cases k3
      | succ i => exact h1 i b (by simpa using hi)
    · cases i with
      | zero =>
        simp only [List.getElem?_cons_zero, Option.some.injEq] at hi
        cases j with
        | zero => rfl
        | succ j =>
          subst hi
          exact absurd (by simpa using hj) (no j)
      | succ i => cases j with
        | zero =>
          simp only [List.getElem?_cons_zero, Option.some.injEq] at hj
          subst hj
          exact absurd (by simpa using hi) (no i)
        | succ j => rw [h2 i j b (by simpa using hi) (by simpa using hj)]
section
variable {c : Cfg} {lim n0 : Nat}
theorem reshape (hG : ∀ p ∈ c.G, p.2 < c.L) (ks : List (Option Nat)) {t T : List V} {h H : Heap} (hlen : n0 ≤ h.length) (hH : H.length = n0 + ks.length) (hl : lim ≤ n0) (hL : c.L ≤ lim)
    (hT : mvs (tauOf n0 ks) (nlOf n0 ks) T = hideBy T t) (hTl : T.length = t.length) (hTo : (anyOwn 0 T && T.all (·.slotOk H.length) && nilOks (nlOf n0 ks) T) = true) (hB : ∀ i, i < c.L → H[i]? = h[i]?) (hk : keysOk lim n0 h.length H ks = true) (hE : Paid (entries (tauOf n0 ks) (nlOf n0 ks) h H.length 0 H))
    {ρ : Ren} {a : Act} {w : World} (RT : RelT ρ h.length t a) (RH : RelH c ρ h w) : ∃ ρ', RelT ρ' H.length T a ∧ RelH c ρ' H w ∧ Fr lim n0 ρ h w ρ' H w := by
  generalize hτ : tauOf n0 ks = τ at *
  generalize hn : nlOf n0 ks = nl at *
  simp only [Bool.and_eq_true] at hTo
  obtain ⟨⟨t1, t2⟩, t3⟩ := hTo
  obtain ⟨k1, k2⟩ := keysOk_get ks hk
  have low : ∀ i, i < n0 → τ i = i ∧ nl i = false := fun i hi => by
    rw [← hτ, ← hn]
    refine ⟨by simp [tauOf, hi], ?_⟩
    simp only [nlOf, Bool.and_eq_false_iff, decide_eq_false_iff_not]
    exact .inl (by omega)
  have ent : ∀ i B, H[i]? = some (some B) → (match nl i with
      | true => nilB B
      | false => h[τ i]? = some (some (B.mv τ nl))) ∧ B.under H.length = true ∧ B.nilOk nl = true := fun i B hB => by
    have := entries_get H 0 hE i B hB
    rwa [Nat.zero_add] at this
  generalize hρ : (⟨fun j => if nl j = true then ⟨0, [], [], 0, true⟩ else ρ.blk (τ j), fun s => a.tmps.getD s undef⟩ : Ren) = ρ'
  have mv : Moved τ nl ρ ρ' := fun i => ⟨fun h => by rw [← hρ]; simp [h], fun h => by rw [← hρ]; simp [h]⟩
  -- where a live name comes from
  have from_ : ∀ i B, H[i]? = some (some B) → (ρ'.blk i).nil = false → ρ'.blk i = ρ.blk (τ i) ∧ h[τ i]? = some (some (B.mv τ nl)) := fun i B hB hnil => by
    cases hni : nl i with
    | true => rw [(mv i).1 hni] at hnil; cases hnil
    | false =>
      have := (ent i B hB).1
      rw [hni] at this
      exact ⟨(mv i).2 hni, this⟩
  have wr : ∀ B : Blk, (B.mv τ nl).wr = B.wr := fun B => by
    cases B with
    | cells cs ty own => cases own <;> rfl
    | rcd r => rfl
  have flw : ∀ i, lw ρ' H i → lw ρ h (τ i) ∧ ρ'.blk i = ρ.blk (τ i) := fun i ⟨B, b1, b2, b3⟩ => by
    obtain ⟨e1, e2⟩ := from_ i B b1 b3
    exact ⟨⟨_, e2, by rw [wr]; exact b2, by rw [← e1]; exact b3⟩, e1⟩
  have flv : ∀ i, lv ρ' H i → lv ρ h (τ i) ∧ ρ'.blk i = ρ.blk (τ i) := fun i ⟨B, b1, b3⟩ => by
    obtain ⟨e1, e2⟩ := from_ i B b1 b3
    exact ⟨⟨_, e2, by rw [← e1]; exact b3⟩, e1⟩
  have key : ∀ i, n0 ≤ i → lv ρ' H i → ∃ b, ks[i - n0]? = some (some b) ∧ τ i = b := fun i hi ⟨B, b1, b3⟩ => by
    have hil := lt_len b1
    cases hx : ks[i - n0]? with
    | none => rw [List.getElem?_eq_none_iff] at hx; omega
    | some x =>
      cases x with
      | none =>
        exfalso
        have : nl i = true := by
          rw [← hn]; simp [nlOf, hi, hx]
        rw [(mv i).1 this] at b3
        cases b3
      | some b => exact ⟨b, rfl, by rw [← hτ]; simp only [tauOf]; rw [if_neg (by omega), hx]; rfl⟩
  refine ⟨ρ', ⟨?_, fun x hx => List.all_eq_true.1 t2 x hx⟩, ⟨fun i B hB => ?_, fun i j hi hj he => ?_, fun i B hB => (ent i B hB).2.1, fun p hp => ?_, by rw [hH]; omega, fun i hi => by rw [hB i hi]; exact RH.base i hi⟩, ?_⟩
  · apply Array.ext_getElem?
    intro s
    have et : ∀ l : List Value, l.toArray[s]? = l[s]? := fun l => List.getElem?_toArray
    rw [et (concs ρ' T), concs_get]
    have h0 : a.tmps[s]? = (t[s]?).map (·.conc ρ) := by rw [RT.tmps, et (concs ρ t)]; exact concs_get ρ t s
    cases hv : T[s]? with
    | none =>
      rw [h0, List.getElem?_eq_none (by rw [List.getElem?_eq_none_iff] at hv; omega)]
      rfl
    | some v =>
      simp only [Option.map_some]
      have hs : s < t.length := by rw [← hTl]; exact (List.getElem?_eq_some_iff.1 hv).1
      have hg := hideBy_get T t hTl s
      rw [← hT, hv] at hg
      have hmg : (mvs τ nl T)[s]? = some (v.mv τ nl) := by
        have gen : ∀ (l : List V) (i : Nat), (mvs τ nl l)[i]? = (l[i]?).map (·.mv τ nl) := by
          intro l
          induction l with
          | nil => intro i; simp [mvs]
          | cons x l ih => intro i; cases i <;> simp [mvs, ih]
        rw [gen, hv]; rfl
      rw [hmg] at hg
      have hvm := List.mem_of_getElem? hv
      have hok := List.all_eq_true.1 t2 v hvm
      have hnil : v.nilOk nl = true := by
        have gen : ∀ l : List V, nilOks nl l = true → ∀ x ∈ l, x.nilOk nl = true := by
          intro l
          induction l with
          | nil => intro _ x hx; cases hx
          | cons y l ih =>
            intro hl x hx
            simp only [nilOks, Bool.and_eq_true] at hl
            rcases List.mem_cons.1 hx with rfl | hx
            · exact hl.1
            · exact ih hl.2 x hx
        exact gen T t3 v hvm
      cases v with
      | any k =>
        have := anyOwn_get T 0 s k t1 hv
        rw [Nat.zero_add] at this
        subst this
        rw [← hρ]
        simp only [V.conc]
        have hsz : k < a.tmps.size := by rw [RT.tmps]; simpa [concs_length] using hs
        simp [hsz]
      | _ =>
        rw [h0]
        simp only at hg
        rw [← hg]
        simp only [Option.map_some]
        have e1 := V.mv_conc (ρ := ρ) (ρ' := ⟨ρ'.blk, ρ.unk⟩) mv rfl _ hnil
        rw [← e1]
        exact congrArg some (V.conc_agree (ρ := ρ') (ρ' := ⟨ρ'.blk, ρ.unk⟩) (n := H.length) (fun _ _ => rfl) _ hok)
  · obtain ⟨e1, e2, e3⟩ := ent i B hB
    cases hni : nl i with
    | true =>
      rw [hni] at e1
      have hnil := (mv i).1 hni
      cases B with
      | cells cs ty own =>
        cases cs with
        | nil =>
          cases own with
          | row sz =>
            refine ⟨fun _ => rfl, fun h => (by rw [hnil] at h; cases h), fun _ _ => ⟨?_, fun h => (by rw [hnil] at h; cases h)⟩⟩
            rw [← hρ]; simp [hni]
          | _ => exact e1.elim
        | cons _ _ => exact e1.elim
      | rcd r => exact e1.elim
    | false =>
      rw [hni] at e1
      rw [(mv i).2 hni]
      exact (BlkOk.mv mv e2 e3).1 (RH.cell _ _ e1)
  · obtain ⟨a1, a2⟩ := flw i hi
    obtain ⟨b1, b2⟩ := flv j hj
    have e := RH.inj _ _ a1 b1 (by rw [← a2, ← b2]; exact he)
    have gone : ∀ x y, x < n0 → n0 ≤ y → lv ρ' H x → lv ρ' H y → τ x = τ y → False := fun x y hx hy hlx hly e => by
      obtain ⟨b, e1, e2⟩ := key y hy hly
      rw [(low x hx).1, e2] at e
      subst e
      obtain ⟨B, hB, _⟩ := hlx
      exact (k1 _ _ e1).2.2 hx B hB
    rcases Nat.lt_or_ge i n0 with hi0 | hi0 <;> rcases Nat.lt_or_ge j n0 with hj0 | hj0
    · rwa [(low i hi0).1, (low j hj0).1] at e
    · exact (gone i j hi0 hj0 hi.lv hj e).elim
    · exact (gone j i hj0 hi0 hj hi.lv e.symm).elim
    · obtain ⟨x, x1, x2⟩ := key i hi0 hi.lv
      obtain ⟨y, y1, y2⟩ := key j hj0 hj
      rw [x2, y2] at e
      subst e
      have := k2 _ _ _ x1 y1
      omega
  · obtain ⟨g1, g2, g3⟩ := RH.glob p hp
    have h1 := hG p hp
    have h2 := low p.2 (by omega)
    have e : ρ'.blk p.2 = ρ.blk p.2 := by rw [(mv p.2).2 h2.2, h2.1]
    exact ⟨by rw [e, g1], by rw [e, g2], by rw [hH]; omega⟩
  · refine ⟨rfl, rfl, rfl, Nat.le_refl _, fun _ _ _ => rfl, fun i hi => ?_, by omega, fun i hi hlw => ?_, fun i hi hlw => ?_⟩
    · rw [(mv i).2 (low i hi).2, (low i hi).1]
    · obtain ⟨a1, a2⟩ := flw i hlw
      obtain ⟨b, e1, e2⟩ := key i hi hlw.lv
      exact .inr ⟨τ i, by rw [e2]; exact (k1 _ _ e1).1, a1, by rw [a2]⟩
    · have := (flw i hlw).1
      rwa [(low i hi).1] at this
theorem Runs.pre {rnd : Option Nat} {code : Code} {t T T' : List V} {h H H' : Heap} {e : Ex} (hb : ∀ b, rnd = some b → b < n0) (hr : ∀ {ρ : Ren} {a : Act} {w : World}, RelT ρ h.length t a → RelH c ρ h w → ∃ ρ', RelT ρ' H.length T a ∧ RelH c ρ' H w ∧ Fr lim n0 ρ h w ρ' H w) (hs : Runs c lim n0 rnd code T H e T' H') : Runs c lim n0 rnd code t h e T' H' := by
  intro ρ a w RT RH
  obtain ⟨ρ1, RT1, RH1, F1⟩ := hr RT RH
  have := hs ρ1 a w RT1 RH1
  rw [rndOf_ren hb F1.ren] at this
  exact wpIn_mono this fun z a2 w2 ⟨hz, ρ2, ms, d, M, RT2, RH2, F2⟩ => ⟨hz, ρ2, ms, d, M, RT2, RH2, F1.trans F2⟩
theorem Runs.post {rnd : Option Nat} {code : Code} {t t1 T : List V} {h h1 H : Heap} {e : Ex} (hs : Runs c lim n0 rnd code t h e t1 h1) (hr : ∀ {ρ : Ren} {a : Act} {w : World}, RelT ρ h1.length t1 a → RelH c ρ h1 w → ∃ ρ', RelT ρ' H.length T a ∧ RelH c ρ' H w ∧ Fr lim n0 ρ h1 w ρ' H w) : Runs c lim n0 rnd code t h e T H := by
  intro ρ a w RT RH
  exact wpIn_mono (hs ρ a w RT RH) fun z a2 w2 ⟨hz, ρ2, ms, d, M, RT2, RH2, F2⟩ => by
    obtain ⟨ρ3, RT3, RH3, F3⟩ := hr RT2 RH2
    exact ⟨hz, ρ3, ms, d, M, RT3, RH3, F2.trans F3⟩
end
end Go.Proofs.Ytmelbcmfahcffaa.E2
end
section
namespace Go.Proofs.Ytmelbcmfahcffaa.E2
open Go Go.RowKit
def nf : Nat → Bool := fun _ => false
mutual
theorem V.nilOk_nf : ∀ x : V, x.nilOk nf = true
  | .raw v => rfl
  | .any k => rfl
  | .ptr b o => rfl
  | .slo b l => rfl
  | .yld b => rfl
  | .fn f x y => by simp only [V.nilOk, nilOks_nf x, nilOks_nf y, Bool.and_self]
  | .agg l => by simp only [V.nilOk, nilOks_nf l]
  | .tup l => by simp only [V.nilOk, nilOks_nf l]
  | .lit b => rfl
theorem nilOks_nf : ∀ l : List V, nilOks nf l = true
  | [] => rfl
  | x :: l => by simp only [nilOks, V.nilOk_nf x, nilOks_nf l, Bool.and_self]
end
theorem Blk.nilOk_nf (B : Blk) : B.nilOk nf = true := by
  cases B with
  | cells cs ty own => exact nilOks_nf cs
  | rcd r => exact nilOks_nf r.t
mutual
theorem V.mv_under {τ : Nat → Nat} {n m : Nat} (h : ∀ b, b < n → τ b < m) : ∀ x : V, x.under n = true → (x.mv τ nf).under m = true
  | .raw v, _ => rfl
  | .any k, h => by simp [V.under] at h
  | .ptr b o, hx => by simp only [V.under, V.mv, decide_eq_true_eq] at *; exact h b hx
  | .slo b l, hx => by simp only [V.under, V.mv, nf, decide_eq_true_eq] at *; exact h b hx
  | .yld b, hx => by simp only [V.under, V.mv, decide_eq_true_eq] at *; exact h b hx
  | .fn f x y, hx => by
    simp only [V.under, V.mv, Bool.and_eq_true] at *
    exact ⟨mvs_under h x hx.1, mvs_under h y hx.2⟩
  | .agg l, hx => by simp only [V.under, V.mv] at *; exact mvs_under h l hx
  | .tup l, hx => by simp only [V.under, V.mv] at *; exact mvs_under h l hx
  | .lit b, _ => rfl
theorem mvs_under {τ : Nat → Nat} {n m : Nat} (h : ∀ b, b < n → τ b < m) : ∀ l : List V, unders n l = true → unders m (mvs τ nf l) = true
  | [], _ => rfl
  | x :: l, hx => by
    simp only [unders, mvs, Bool.and_eq_true] at *
    exact ⟨V.mv_under h x hx.1, mvs_under h l hx.2⟩
end
theorem V.mv_slotOk {τ : Nat → Nat} {n m : Nat} (h : ∀ b, b < n → τ b < m) (x : V) (hx : x.slotOk n = true) : (x.mv τ nf).slotOk m = true := by
  cases x <;> first | rfl | exact V.slot_of_under _ (V.mv_under h _ hx)
theorem Blk.mv_under {τ : Nat → Nat} {n m : Nat} (h : ∀ b, b < n → τ b < m) (B : Blk) (hB : B.under n = true) : (B.mv τ nf).under m = true := by
  cases B with
  | cells cs ty own => exact mvs_under h cs hB
  | rcd r =>
    simp only [Blk.under, Blk.mv, List.all_eq_true] at hB ⊢
    have gen : ∀ l : List V, (∀ x ∈ l, x.slotOk n = true) → ∀ x ∈ mvs τ nf l, x.slotOk m = true := by
      intro l
      induction l with
      | nil => intro _ x hx; cases hx
      | cons y l ih =>
        intro hl x hx
        simp only [mvs, List.mem_cons] at hx
        rcases hx with rfl | hx
        · exact V.mv_slotOk h y (hl y List.mem_cons_self)
        · exact ih (fun z hz => hl z (List.mem_cons_of_mem _ hz)) x hx
    exact gen r.t hB
theorem Blk.mv_wr (τ : Nat → Nat) (nl : Nat → Bool) (B : Blk) : (B.mv τ nl).wr = B.wr := by
  cases B with
  | cells cs ty own => cases own <;> rfl
  | rcd r => rfl
def wrAt (h : Heap) (i : Nat) : Prop := ∃ B, h[i]? = some (some B) ∧ B.wr = true
section
variable {c : Cfg}
theorem embed {lim0 lim : Nat} {f : FuncId} {args : List V} {H H' h h' : Heap} {v : V} (μ : Nat → Nat) (hG : ∀ p ∈ c.G, p.2 < c.L)
    (hm : Meets c lim0 f args H v H') (hHH : H.length ≤ H'.length) (hua : unders H.length args = true) (hL0 : c.L ≤ H.length)
    (hbase : ∀ i, i < c.L → H[i]? = c.H0[i]?) (hsco : ∀ (i : Nat) (B : Blk), H[i]? = some (some B) → B.under H.length = true) (hnew : ∀ (i : Nat) (B : Blk), H.length ≤ i → H'[i]? = some (some B) → B.wr = true)
    (hlow : ∀ i, i < c.L → μ i = i) (hml : ∀ i, i < H.length → μ i < h.length)
    (hin : ∀ (i : Nat) (B : Blk), H[i]? = some (some B) → ∃ B', h[μ i]? = some (some B') ∧ (B.mv μ nf).le B' ∧ (B.wr = true → B' = B.mv μ nf))
    (hinj : ∀ i j : Nat, wrAt H i → (∃ B, H[j]? = some (some B)) → μ i = μ j → i = j) (hlim : ∀ i, lim0 ≤ i → wrAt H i → lim ≤ μ i)
    (hlen : h'.length = h.length + (H'.length - H.length)) (hb' : ∀ i, i < c.L → h'[i]? = h[i]?)
    (hout : ∀ (k : Nat) (B' : Blk), h'[k]? = some (some B') → (∃ (i : Nat) (B : Blk), H'[i]? = some (some B) ∧ k = (if i < H.length then μ i else h.length + (i - H.length)) ∧ (i < H.length → lim0 ≤ i ∧ wrAt H i) ∧ B' = B.mv (fun i => if i < H.length then μ i else h.length + (i - H.length)) nf) ∨ (k < h.length ∧ h[k]? = some (some B') ∧ ∀ i, lim0 ≤ i → wrAt H i → μ i ≠ k)) :
    Meets c lim f (mvs μ nf args) h (v.mv (fun i => if i < H.length then μ i else h.length + (i - H.length)) nf) h' := by
  intro ρ w RH hu
  generalize hν : (fun i => if i < H.length then μ i else h.length + (i - H.length)) = ν at *
  have nlow : ∀ i, i < H.length → ν i = μ i := fun i hi => by rw [← hν]; simp [hi]
  have nhigh : ∀ i, H.length ≤ i → ν i = h.length + (i - H.length) := fun i hi => by rw [← hν]; simp; omega
  have Mv : Moved μ nf ρ ⟨fun i => ρ.blk (μ i), ρ.unk⟩ := fun i => ⟨fun e => (by cases e), fun _ => rfl⟩
  have RH0 : RelH c ⟨fun i => ρ.blk (μ i), ρ.unk⟩ H w := by
    refine ⟨fun i B hB => ?_, fun i j hi hj he => ?_, hsco, fun p hp => ?_, hL0, hbase⟩
    · obtain ⟨B', b1, b2, _⟩ := hin i B hB
      exact (BlkOk.mv Mv (hsco i B hB) (Blk.nilOk_nf B)).1 ((RH.cell _ _ b1).le b2)
    · obtain ⟨B, a1, a2, a3⟩ := hi
      obtain ⟨C, d1, d3⟩ := hj
      obtain ⟨B', b1, _, b3⟩ := hin i B a1
      obtain ⟨C', e1, _, _⟩ := hin j C d1
      have := RH.inj (μ i) (μ j) ⟨B', b1, by rw [b3 a2, Blk.mv_wr]; exact a2, a3⟩ ⟨C', e1, d3⟩ he
      exact hinj i j ⟨B, a1, a2⟩ ⟨C, d1⟩ this
    · have h1 := hG p hp
      obtain ⟨g1, g2, _⟩ := RH.glob p hp
      show (ρ.blk (μ p.2)).n = p.1 ∧ (ρ.blk (μ p.2)).pre = [] ∧ _
      rw [hlow _ h1]
      exact ⟨g1, g2, by omega⟩
  have hargs : concs ρ (mvs μ nf args) = concs ⟨fun i => ρ.blk (μ i), ρ.unk⟩ args := (mvs_conc Mv rfl args (nilOks_nf args)).symm
  rw [hargs]
  refine (hm _ w RH0 hua).mono fun e w' ⟨ρ1, k1, k2, RH1, F1, k5⟩ => ?_
  generalize hρ' : (⟨fun k => if k < h.length then ρ.blk k else ρ1.blk (H.length + (k - h.length)), ρ.unk⟩ : Ren) = ρ'
  have rlow : ∀ k, k < h.length → ρ'.blk k = ρ.blk k := fun k hk => by rw [← hρ']; simp [hk]
  have rhigh : ∀ k, h.length ≤ k → ρ'.blk k = ρ1.blk (H.length + (k - h.length)) := fun k hk => by rw [← hρ']; simp; omega
  have Mv' : Moved ν nf ρ' ρ1 := fun i => ⟨fun e => (by cases e), fun _ => (by
    rcases Nat.lt_or_ge i H.length with hi | hi
    · rw [nlow i hi, rlow _ (hml i hi), F1.ren i hi]
    · rw [nhigh i hi, rhigh _ (by omega)]
      congr 1
      omega)⟩
  have hlwH : ∀ i, lw ⟨fun i => ρ.blk (μ i), ρ.unk⟩ H i → lw ρ h (μ i) ∧ wrAt H i := fun i ⟨B, a1, a2, a3⟩ => by
    obtain ⟨B', b1, _, b3⟩ := hin i B a1
    exact ⟨⟨B', b1, by rw [b3 a2, Blk.mv_wr]; exact a2, a3⟩, B, a1, a2⟩
  -- entries that stay
  have stay : ∀ k B, h[k]? = some (some B) → (ρ.blk k).nil = false → (∀ i, lim0 ≤ i → wrAt H i → μ i ≠ k) → w'.heap[(ρ.blk k).n]? = w.heap[(ρ.blk k).n]? := fun k B hB hn hne => by
    refine F1.blk _ (RH.lt ⟨B, hB, hn⟩) fun i hi hlwi e => ?_
    obtain ⟨q1, q2⟩ := hlwH i hlwi
    exact hne i hi q2 (RH.inj _ _ q1 ⟨B, hB, hn⟩ e)
  have fresh : ∀ i, H.length ≤ i → lw ρ1 H' i → w.heap.size ≤ (ρ1.blk i).n ∨ ∃ j, lim ≤ μ j ∧ lw ρ h (μ j) ∧ lim0 ≤ j ∧ wrAt H j ∧ (ρ1.blk i).n = (ρ.blk (μ j)).n := fun i hi hlwi => by
    rcases F1.fresh i hi hlwi with q | ⟨j, j1, j2, j3⟩
    · exact .inl q
    · obtain ⟨q1, q2⟩ := hlwH j j2
      exact .inr ⟨j, hlim j j1 q2, q1, j1, q2, j3⟩
  have kind : ∀ k, lv ρ' h' k → ∀ B', h'[k]? = some (some B') → (∃ i B, H'[i]? = some (some B) ∧ k = ν i ∧ (i < H.length → lim0 ≤ i ∧ wrAt H i) ∧ B' = B.mv ν nf ∧ ρ'.blk k = ρ1.blk i ∧ lv ρ1 H' i ∧ (B'.wr = true → lw ρ1 H' i)) ∨ (k < h.length ∧ h[k]? = some (some B') ∧ (∀ i, lim0 ≤ i → wrAt H i → μ i ≠ k) ∧ ρ'.blk k = ρ.blk k ∧ lv ρ h k) := fun k ⟨X, x1, x2⟩ B' hB' => by
    obtain rfl : X = B' := Option.some.inj (Option.some.inj (x1.symm.trans hB'))
    rcases hout k X hB' with ⟨i, B, q1, q2, q3, q4⟩ | ⟨q1, q2, q3⟩
    · have q2' : k = ν i := by rw [q2, ← hν]
      have hb : ρ'.blk k = ρ1.blk i := by rw [q2']; exact ((Mv' i).2 rfl).symm
      refine .inl ⟨i, B, q1, q2', q3, q4, hb, ⟨B, q1, by rw [← hb]; exact x2⟩, fun hw => ⟨B, q1, ?_, by rw [← hb]; exact x2⟩⟩
      rw [q4, Blk.mv_wr] at hw; exact hw
    · have hb := rlow k q1
      exact .inr ⟨q1, q2, q3, hb, X, q2, by rw [← hb]; exact x2⟩
  refine ⟨ρ', by rw [← hρ'], by rw [k2, V.mv_conc (ρ := ρ') (ρ' := ρ1) Mv' (by rw [k1, ← hρ']) v (V.nilOk_nf v)], ⟨fun k B' hB' => ?_, fun x y hx hy he => ?_, fun k B' hB' => ?_, fun p hp => ?_, ?_, fun i hi => by rw [hb' i hi]; exact RH.base i hi⟩, ⟨F1.os, F1.tape, F1.output, F1.size, fun k hk hn => ?_, fun k hk => rlow k hk, by omega, fun k hk hlwk => ?_, fun k hk hlwk => ?_⟩, ?_⟩
  · rcases hout k B' hB' with ⟨i, B, q1, q2, q3, q4⟩ | ⟨q1, q2, q3⟩
    · have q2' : k = ν i := by rw [q2, ← hν]
      subst q4
      rw [q2', ← (Mv' i).2 rfl]
      exact (BlkOk.mv Mv' (RH1.sco i B q1) (Blk.nilOk_nf B)).2 (RH1.cell i B q1)
    · rw [rlow k q1]
      exact (RH.cell k B' q2).move (RH.sco k B' q2) rlow fun hn => stay k B' q2 hn q3
  · obtain ⟨B, x1, x2, x3⟩ := hx
    obtain ⟨C, y1, y3⟩ := hy
    rcases kind x ⟨B, x1, x3⟩ B x1 with ⟨i, B0, p1, p2, p3, p4, p5, p6, p7⟩ | ⟨p1, p2, p3, p4, p5⟩ <;> rcases kind y ⟨C, y1, y3⟩ C y1 with ⟨j, C0, q1, q2, q3, q4, q5, q6, q7⟩ | ⟨q1, q2, q3, q4, q5⟩
    · rw [p5, q5] at he
      rw [p2, q2, RH1.inj i j (p7 x2) q6 he]
    · exfalso
      rw [p5, q4] at he
      rcases Nat.lt_or_ge i H.length with hi | hi
      · obtain ⟨r1, r2⟩ := hlwH i (F1.dead i hi (p7 x2))
        rw [F1.ren i hi] at he
        exact q3 i (p3 hi).1 r2 (RH.inj _ _ r1 q5 he)
      · rcases fresh i hi (p7 x2) with r | ⟨j, _, r2, r3, r4, r5⟩
        · have := RH.lt q5; omega
        · exact q3 j r3 r4 (RH.inj _ _ r2 q5 (r5.symm.trans he))
    · exfalso
      rw [p4, q5] at he
      have hlx : lw ρ h x := ⟨B, p2, x2, by rw [← p4]; exact x3⟩
      rcases Nat.lt_or_ge j H.length with hj | hj
      · obtain ⟨r0, D, r1, r2⟩ := q3 hj
        rw [F1.ren j hj] at he
        obtain ⟨B'', b1, _, _⟩ := hin j D r1
        have hnj : (ρ.blk (μ j)).nil = false := by
          obtain ⟨_, _, hn⟩ := q6
          rw [F1.ren j hj] at hn
          exact hn
        exact p3 j r0 ⟨D, r1, r2⟩ (RH.inj x (μ j) hlx ⟨B'', b1, hnj⟩ he).symm
      · have hlwj : lw ρ1 H' j := by
          obtain ⟨D, d1, d2⟩ := q6
          exact ⟨D, d1, hnew j D hj d1, d2⟩
        rcases fresh j hj hlwj with r | ⟨i, _, r2, r3, r4, r5⟩
        · have := RH.lt hlx.lv; omega
        · exact p3 i r3 r4 (RH.inj _ _ hlx r2.lv (he.trans r5)).symm
    · rw [p4, q4] at he
      exact RH.inj x y ⟨B, p2, x2, by rw [← p4]; exact x3⟩ q5 he
  · rw [hlen]
    rcases hout k B' hB' with ⟨i, B, q1, q2, q3, q4⟩ | ⟨q1, q2, q3⟩
    · subst q4
      refine Blk.mv_under (fun b hb => ?_) B (RH1.sco i B q1)
      rcases Nat.lt_or_ge b H.length with hb1 | hb1
      · rw [nlow b hb1]
        have := hml b hb1
        omega
      · rw [nhigh b hb1]; omega
    · exact Blk.under_mono (by omega) _ (RH.sco k B' q2)
  · obtain ⟨g1, g2, g3⟩ := RH.glob p hp
    exact ⟨by rw [rlow _ g3, g1], by rw [rlow _ g3, g2], by omega⟩
  · have := RH.big; omega
  · exact F1.blk k hk fun i hi hlwi => hn (μ i) (hlim i hi (hlwH i hlwi).2) (hlwH i hlwi).1
  · obtain ⟨B, x1, x2, x3⟩ := hlwk
    rcases kind k ⟨B, x1, x3⟩ B x1 with ⟨i, B0, p1, p2, p3, p4, p5, p6, p7⟩ | ⟨p1, p2, p3, p4, p5⟩
    · rw [p5]
      rcases Nat.lt_or_ge i H.length with hi | hi
      · rw [nlow i hi] at p2
        have := hml i hi
        omega
      · rcases fresh i hi (p7 x2) with r | ⟨j, r1, r2, _, _, r5⟩
        · exact .inl r
        · exact .inr ⟨μ j, r1, r2, r5⟩
    · omega
  · obtain ⟨B, x1, x2, x3⟩ := hlwk
    rcases kind k ⟨B, x1, x3⟩ B x1 with ⟨i, B0, p1, p2, p3, p4, p5, p6, p7⟩ | ⟨p1, p2, p3, p4, p5⟩
    · rcases Nat.lt_or_ge i H.length with hi | hi
      · have := (hlwH i (F1.dead i hi (p7 x2))).1
        rw [p2, nlow i hi]
        exact this
      · rw [nhigh i hi] at p2
        omega
    · exact ⟨B, p2, x2, by rw [← p4]; exact x3⟩
  · rw [hlen]
    refine V.mv_under (fun b hb => ?_) v k5
    rcases Nat.lt_or_ge b H.length with hb1 | hb1
    · rw [nlow b hb1]
      have := hml b hb1
      omega
    · rw [nhigh b hb1]; omega
end
end Go.Proofs.Ytmelbcmfahcffaa.E2
end
section
namespace Go.Proofs.Ytmelbcmfahcffaa.E2
open Go Go.RowKit
section
variable {c : Cfg}
theorem below_rel {ρ : Ren} {h : Heap} {w w' : World} (RH : RelH c ρ h w) (hb : ∀ k, k < w.heap.size → w'.heap[k]? = w.heap[k]?) : RelH c ρ h w' :=
  ⟨fun i B hi => (RH.cell i B hi).move (RH.sco i B hi) (fun _ _ => rfl) fun hn => hb _ (RH.lt ⟨B, hi, hn⟩), RH.inj, RH.sco, RH.glob, RH.big, RH.base⟩
theorem below_fr {lim : Nat} {ρ : Ren} {h : Heap} {w w' : World} (hl : lim ≤ h.length) (hb : Below w.heap.size w w') : Fr lim h.length ρ h w ρ h w' :=
  ⟨hb.os, hb.tape, hb.output, hb.size, fun k hk _ => hb.block k hk, fun _ _ => rfl, Nat.le_refl _, fun i h1 h2 => .inr ⟨i, by omega, h2, rfl⟩, fun _ _ h => h⟩
theorem fn_of_base (hH : c.H0.length = c.L) (hsc : ∀ (i : Nat) (B : Blk), c.H0[i]? = some (some B) → B.under c.L = true) (hG : ∀ p ∈ c.G, p.2 < c.L) {f : FuncId} {args : List V} {v : V} {h' : Heap}
    (hua : unders c.L args = true) (hv : v.under c.L = true) (hm : Meets c c.L f args c.H0 v h') : Ret c f args v := by
  intro h lim hL hl ρ w RH hu
  have hget : ∀ {i : Nat} {B : Blk}, c.H0[i]? = some (some B) → h[i]? = some (some B) := fun {i B} hi => by
    have := lt_len hi
    rw [RH.base i (by omega)]; exact hi
  have R0 : RelH c ρ c.H0 w := by
    refine ⟨fun i B hi => RH.cell i B (hget hi), fun i j hi hj he => ?_, fun i B hi => by rw [hH]; exact hsc i B hi, fun p hp => ⟨(RH.glob p hp).1, (RH.glob p hp).2.1, by rw [hH]; exact hG p hp⟩, by omega, fun _ _ => rfl⟩
    obtain ⟨B, a1, a2, a3⟩ := hi
    obtain ⟨C, b1, b3⟩ := hj
    exact RH.inj i j ⟨B, hget a1, a2, a3⟩ ⟨C, hget b1, b3⟩ he
  refine (hm ρ w R0 (by rw [hH]; exact hua)).mono fun e w' ⟨ρ', h1, h2, h3, F, h5⟩ => ?_
  have hblk : ∀ k, k < w.heap.size → w'.heap[k]? = w.heap[k]? := fun k hk => F.blk k hk fun i h6 h7 => by
    have := h7.lt
    omega
  have e1 : v.conc ρ' = v.conc ρ := V.conc_agree (n := c.L) (fun i hi => F.ren i (by omega)) v hv
  exact ⟨ρ, rfl, by rw [← e1]; exact h2, below_rel RH hblk, below_fr hl ⟨F.os, F.tape, F.output, F.size, fun k hk => hblk k hk⟩, V.under_mono RH.big v hv⟩
theorem fn_of (hm : c.P.follows .mixedOrders = true) (hfn : ∀ f, c.fns f = true → Callable c.P f) (hH : c.H0.length = c.L) (hsc : ∀ (i : Nat) (B : Blk), c.H0[i]? = some (some B) → B.under c.L = true) (hG : ∀ p ∈ c.G, p.2 < c.L)
    {n : Nat} {f : FuncId} {args : List V} {ans : List Ans} {v : V} {cons : List Prop} (he : (evFunc c n f args c.H0 c.L ans).map (fun o => (o.v, o.cons)) = some (v, cons)) (hua : unders c.L args = true) (hv : v.under c.L = true) (hc : Paid cons) : Ret c f args v := by
  rw [Option.map_eq_some_iff] at he
  obtain ⟨o, h1, h2⟩ := he
  obtain ⟨v', h', ans', cons'⟩ := o
  simp only [Prod.mk.injEq] at h2
  obtain ⟨rfl, rfl⟩ := h2
  exact fn_of_base hH hsc hG hua hv (meets_of hm hfn (Nat.le_refl _) (by omega) h1 hc)
theorem meets_ev (hm : c.P.follows .mixedOrders = true) (hfn : ∀ f, c.fns f = true → Callable c.P f) {lim : Nat} {H : Heap} (hL : c.L ≤ lim) (hl : lim ≤ H.length)
    {n : Nat} {f : FuncId} {args : List V} {ans : List Ans} {v : V} {h' : Heap} {cons : List Prop} (he : (evFunc c n f args H lim ans).map (fun o => (o.v, o.h, o.cons)) = some (v, h', cons)) (hc : Paid cons) : Meets c lim f args H v h' := by
  rw [Option.map_eq_some_iff] at he
  obtain ⟨o, h1, h2⟩ := he
  obtain ⟨v', h', ans', cons'⟩ := o
  simp only [Prod.mk.injEq] at h2
  obtain ⟨rfl, rfl, rfl⟩ := h2
  exact meets_of hm hfn hL hl h1 hc
theorem fn_of_calls {f : FuncId} {args : List Value} {x : Value} (h : ∀ w : World, Calls c.P f args.toArray w fun e w' => e = .returned x ∧ Below w.heap.size w w') : Ret c f (args.map .raw) (.raw x) := by
  intro h0 lim hL hl ρ w RH hu
  rw [concs_raw]
  refine (h w).mono fun e w' ⟨he, hb⟩ => ?_
  subst he
  exact ⟨ρ, rfl, rfl, below_rel RH hb.block, below_fr hl hb, rfl⟩
theorem inR_i64 {n : Int} (h1 : -9223372036854775808 ≤ n) (h2 : n ≤ 9223372036854775807) : inR .i64 n := IntWalk.i64_in n (by omega)
theorem Meets.post {lim : Nat} {f : FuncId} {args : List V} {h h1 H : Heap} {v v' : V} (hm : Meets c lim f args h v h1) (hna : v'.under H.length = true)
    (hr : ∀ {ρ : Ren} {a : Act} {w : World}, RelT ρ h1.length [v] a → RelH c ρ h1 w → ∃ ρ', RelT ρ' H.length [v'] a ∧ RelH c ρ' H w ∧ Fr lim h.length ρ h1 w ρ' H w) : Meets c lim f args h v' H := by
  intro ρ w RH hu
  refine (hm ρ w RH hu).mono fun e w' ⟨ρ1, k1, k2, RH1, F1, k5⟩ => ?_
  obtain ⟨ρ2, RT2, RH2, F2⟩ := hr (a := ⟨#[v.conc ρ1], []⟩) ⟨rfl, fun x hx => by rw [List.mem_singleton] at hx; subst hx; exact V.slot_of_under _ k5⟩ RH1
  refine ⟨⟨ρ2.blk, ρ.unk⟩, rfl, ?_, relH_unk RH2 _, (F1.trans F2).unk _, hna⟩
  have e1 : v.conc ρ1 = v'.conc ρ2 := by
    have := RT2.tmps
    simp only [concs] at this
    have h2 := congrArg Array.toList this
    simpa using h2
  rw [k2, e1, V.conc_agree (ρ := ρ2) (ρ' := ⟨ρ2.blk, ρ.unk⟩) (fun _ _ => rfl) _ hna]
def loopsIn : Code → List Code
  | .loop x => x :: loopsIn x
  | .seq x y => loopsIn x ++ loopsIn y
  | .cond _ x y => loopsIn x ++ loopsIn y
  | .block _ x => loopsIn x
  | .scope x => loopsIn x
  | .rangeFunc _ _ _ y => loopsIn y
  | _ => []
def loopOf (P : Program) (f i : Nat) : Code := match P.funcs[f]? with
  | some fn => match fn.body with
    | some b => (loopsIn b).getD i .skip
    | none => .skip
  | none => .skip
theorem body_of (hmx : c.P.follows .mixedOrders = true) (hfn : ∀ f, c.fns f = true → Callable c.P f) {lim : Nat} (hL : c.L ≤ lim) {rnd : Option Nat} {fi k n n0 : Nat} {code : Code} {T T' : List V} {H H' : Heap} {ans : List Ans} {e : Ex} {cons : List Prop}
    (he : (evCode c ⟨evFunc c n, evYlds c (evFunc c n) 3⟩ lim rnd fi code k T H ans).map (fun r => (r.e, r.t, r.h, r.cons)) = some (e, T', H', cons)) (hp : Paid cons)
    (hln : lim ≤ n0) (hnl : n0 ≤ H.length) (hb : ∀ b, rnd = some b → b < H.length) (hs : ∀ j x, (rangesIn code)[j]? = some x → rangeAt c.P fi (k + j) = x) : Runs c lim n0 rnd code T H e T' H' := by
  rw [Option.map_eq_some_iff] at he
  obtain ⟨r, h1, h2⟩ := he
  simp only [Prod.mk.injEq] at h2
  obtain ⟨rfl, rfl, rfl, rfl⟩ := h2
  exact (evCode_sound hmx (evYlds_sound hmx hfn (evFunc_sound hmx hfn n) 3) hfn hL code k _ _ _ _ h1 hp.all (Nat.le_trans hln hnl) hb hs).fewer hnl hln
theorem noRanges {P : Program} {fi k : Nat} {code : Code} (h : (rangesIn code).isEmpty = true) : ∀ j x, (rangesIn code)[j]? = some x → rangeAt P fi (k + j) = x := fun j x hx => by
  rw [List.isEmpty_iff] at h
  rw [h] at hx
  simp at hx
theorem noRnd {n : Nat} : ∀ b, (none : Option Nat) = some b → b < n := fun b e => by cases e
end
end Go.Proofs.Ytmelbcmfahcffaa.E2
end
section
namespace Go.Proofs.Ytmelbcmfahcffaa
open Go Go.RowKit Go.Proofs.Ytmelbcmfahcffaa.E2
noncomputable def cfx : Cfg := ⟨Try.prog, [], 0, [], true, fun f => (Try.prog.funcs[f]?).any fun fn => !fn.body.isNone⟩
theorem cfx_mixed : cfx.P.follows .mixedOrders = true := by kernel_rfl
theorem funcs_plain2 : ((Try.prog.funcs.toList.all fun fn => !(fn.name == "runtime.NumGoroutine"))) = true := by kernel_rfl
theorem cfx_call : ∀ f, cfx.fns f = true → Callable cfx.P f := fun f hf => by
  cases hg : Try.prog.funcs[f]? with
  | none =>
    have hf' : ((Try.prog.funcs[f]?).any fun fn => !fn.body.isNone) = true := hf
    rw [hg] at hf'
    cases hf'
  | some fn =>
    have hf' : ((Try.prog.funcs[f]?).any fun fn => !fn.body.isNone) = true := hf
    rw [hg] at hf'
    have h := List.all_eq_true.1 funcs_plain2 fn (Array.mem_toList_iff.2 (Array.mem_of_getElem? hg))
    exact ⟨fn, hg, by simpa using h, by simpa using hf'⟩
theorem cfx_base : cfx.H0.length = cfx.L ∧ (∀ (i : Nat) (B : Blk), cfx.H0[i]? = some (some B) → B.under cfx.L = true) ∧ ∀ p ∈ cfx.G, p.2 < cfx.L :=
  ⟨rfl, fun i B h => by simp [cfx] at h, fun p h => by simp [cfx] at h⟩
theorem cfx_G : ∀ p ∈ cfx.G, p.2 < cfx.L := fun p h => by simp [cfx] at h
end Go.Proofs.Ytmelbcmfahcffaa
end
section
namespace Go.Proofs.Ytmelbcmfahcffaa.E2
open Go Go.RowKit
section
variable {τ : Nat → Nat} {nl : Nat → Bool} {h : Heap} {m j : Nat} {l : Heap}
theorem ents_nil : Paid (entries τ nl h m j []) := trivial
theorem ents_none (k : Paid (entries τ nl h m (j + 1) l)) : Paid (entries τ nl h m j (none :: l)) := k
theorem ents_say {B : Blk} (h1 : nl j = false) (h2 : h[τ j]? = some (some (B.mv τ nl))) (h3 : B.under m = true) (h4 : B.nilOk nl = true) (k : Paid (entries τ nl h m (j + 1) l)) : Paid (entries τ nl h m j (some B :: l)) := by
  refine ⟨?_, h3, h4, k⟩
  rw [h1]; exact h2
theorem ents_raw {cs : List V} {ty : TypeId} {own : Own} (hr : cs.all isRawV = true) (h1 : nl j = false) (h2 : h[τ j]? = some (some (.cells cs ty own))) (k : Paid (entries τ nl h m (j + 1) l)) : Paid (entries τ nl h m j (some (.cells cs ty own) :: l)) := by
  refine ⟨?_, unders_raws _ _ hr, nilOks_raw _ _ hr, k⟩
  rw [h1]
  show h[τ j]? = some (some (.cells (mvs τ nl cs) ty own))
  rw [mvs_raw τ nl cs hr]
  exact h2
theorem ents_nilB {ty : TypeId} {sz : Nat} (h1 : nl j = true) (k : Paid (entries τ nl h m (j + 1) l)) : Paid (entries τ nl h m j (some (.cells [] ty (.row sz)) :: l)) := by
  refine ⟨?_, rfl, rfl, k⟩
  rw [h1]; exact trivial
theorem ents_nilC {cs : List V} (hc : cs = []) {ty : TypeId} {sz : Nat} (h1 : nl j = true) (k : Paid (entries τ nl h m (j + 1) l)) : Paid (entries τ nl h m j (some (.cells cs ty (.row sz)) :: l)) := by
  subst hc; exact ents_nilB h1 k
end
theorem no_base {c : Cfg} {H h : Heap} (hL : c.L = 0) : ∀ i, i < c.L → H[i]? = h[i]? := fun i hi => by omega
abbrev iV (n : Int) : V := .raw (.int .i64 n)
abbrev uV : V := .raw (.tuple #[])
theorem reshape2 {c : Cfg} {lim : Nat} (n0 : Nat) (hG : ∀ p ∈ c.G, p.2 < c.L) (hL : c.L = 0) (ks : List (Option Nat)) {t T : List V} {h H : Heap} (hq : (Nat.ble n0 h.length && Nat.beq H.length (n0 + ks.length) && Nat.ble lim n0 && Nat.beq T.length t.length && (anyOwn 0 T && T.all (·.slotOk H.length) && nilOks (nlOf n0 ks) T) && keysOk lim n0 h.length H ks) = true)
    (hT : mvs (tauOf n0 ks) (nlOf n0 ks) T = hideBy T t) (hE : Paid (entries (tauOf n0 ks) (nlOf n0 ks) h H.length 0 H))
    {ρ : Ren} {a : Act} {w : World} (RT : RelT ρ h.length t a) (RH : RelH c ρ h w) : ∃ ρ', RelT ρ' H.length T a ∧ RelH c ρ' H w ∧ Fr lim n0 ρ h w ρ' H w := by
  rw [Bool.and_eq_true, Bool.and_eq_true, Bool.and_eq_true, Bool.and_eq_true, Bool.and_eq_true] at hq
  obtain ⟨⟨⟨⟨⟨q1, q2⟩, q3⟩, q4⟩, q5⟩, q6⟩ := hq
  exact reshape hG ks (Nat.le_of_ble_eq_true q1) (Nat.eq_of_beq_eq_true q2) (Nat.le_of_ble_eq_true q3) (by omega) hT (Nat.eq_of_beq_eq_true q4) q5 (no_base hL) q6 hE RT RH
def ints (zs : List Int) : List V := zs.map fun n => .raw (.int .i64 n)
theorem ints_all (zs : List Int) : (ints zs).all isRawV = true := by
  rw [List.all_eq_true]
  intro x hx
  obtain ⟨v, _, rfl⟩ := List.mem_map.1 hx
  rfl
theorem ints_len (zs : List Int) : (ints zs).length = zs.length := by simp [ints]
theorem ints_take (zs : List Int) (n : Nat) : (ints zs).take n = ints (zs.take n) := by simp [ints, List.map_take]
theorem ints_one (zs : List Int) : oneCells (ints zs) = true := by
  induction zs with
  | nil => rfl
  | cons z zs ih => exact ih
theorem ints_app (xs ys : List Int) : ints xs ++ ints ys = ints (xs ++ ys) := by simp [ints]
def at' (zs : List Int) (k : Nat) : Int := zs.getD k 0
theorem raws_raw : ∀ l : List Value, raws (l.map .raw) = some l
  | [] => rfl
  | v :: l => by simp [raws, raws_raw l]
theorem load_one {c : Cfg} {zs : List Int} {T : TypeId} {off : Nat} (hT : pureRun c.P (isAgg T) = some false) (h : off < zs.length) : loadRow c T (ints zs) off = some (.raw (.int .i64 (at' zs off))) := by
  unfold loadRow
  rw [hT]
  dsimp only [ints]
  rw [List.getElem?_map, List.getElem?_eq_getElem h]
  simp [at', List.getD, List.getElem?_eq_getElem h]
theorem load_agg {c : Cfg} {zs : List Int} {T : TypeId} {off : Nat} (n : Nat) (hT : pureRun c.P (isAgg T) = some true) (hn : pureRun c.P (Go.sizeOf T) = some n) (h0 : 0 < n) (h : off + n ≤ zs.length) : loadRow c T (ints zs) off = some (.raw (.agg ((List.range n).map fun j => Value.int .i64 (at' zs (off + j))).toArray)) := by
  unfold loadRow
  rw [hT, hn]
  dsimp only [ints]
  simp only [List.length_map, h, h0, and_self, if_true]
  have e : List.take n (List.drop off (List.map (fun n => V.raw (Value.int .i64 n)) zs)) = ((List.range n).map fun j => Value.int .i64 (at' zs (off + j))).map V.raw := by
    apply List.ext_getElem?
    intro j
    rw [List.getElem?_take, List.getElem?_drop, List.getElem?_map, List.getElem?_map, List.getElem?_map]
    by_cases hj : j < n
    · rw [if_pos hj, List.getElem?_range hj, List.getElem?_eq_getElem (by omega : off + j < zs.length)]
      simp [at', List.getD, List.getElem?_eq_getElem (by omega : off + j < zs.length)]
    · rw [if_neg hj, List.getElem?_eq_none (by simp; omega : (List.range n).length ≤ j)]
      rfl
  rw [e]
  unfold mkAgg
  rw [raws_raw]
abbrev rowV (zs : List Int) (off n : Nat) : V := .raw (.agg ((List.range n).map fun j => Value.int .i64 (at' zs (off + j))).toArray)
def putI (zs : List Int) (k : Nat) (xs : List Int) : List Int := zs.take k ++ xs ++ zs.drop (k + xs.length)
theorem putI_length (zs : List Int) (k : Nat) (xs : List Int) : (putI zs k xs).length = min k zs.length + (xs.length + (zs.length - (k + xs.length))) := by
  simp [putI]
theorem ones_take (zs : List Int) (n : Nat) : oneCells ((ints zs).take n) = true := by rw [ints_take]; exact ints_one _
theorem app_lit (zs : List Int) (xs : List Int) {l : List V} (h : l = ints xs) : ints zs ++ l = ints (zs ++ xs) := by rw [h, ints_app]
theorem app_row (zs xs : List Int) (n : Nat) : ints zs ++ (ints xs).take n = ints (zs ++ xs.take n) := by rw [ints_take, ints_app]
theorem app_row0 (xs : List Int) (n : Nat) : [] ++ (ints xs).take n = ints (xs.take n) := by rw [List.nil_append, ints_take]
theorem row_row0 (xs : List Int) (n : Nat) : (ints xs).take n = ints (xs.take n) := ints_take xs n
theorem below2 {c : Cfg} {lim0 lim : Nat} (hL : c.L = 0) (hG : c.G = []) {f : FuncId} {args : List V} {A B : List V} {T U : TypeId} {N h : Heap} {v : V} (i j : Nat)
    (hm : Meets c lim0 f args [some (.cells A T .ro), some (.cells B U .ro)] v ([some (.cells A T .ro), some (.cells B U .ro)] ++ N))
    (hA : A.all isRawV = true) (hB : B.all isRawV = true) (hua : unders 2 args = true)
    (hnew : ∀ (k : Nat) (X : Blk), N[k]? = some (some X) → X.wr = true ∧ ∃ cs ty own, X = .cells cs ty own ∧ cs.all isRawV = true)
    {o1 o2 : Own} (h1 : h[i]? = some (some (.cells A T o1))) (h2 : h[j]? = some (some (.cells B U o2))) (hlim : lim ≤ h.length) :
    Meets c lim f (mvs (fun k => if k = 0 then i else j) nf args) h (v.mv (fun k => if k < 2 then (if k = 0 then i else j) else h.length + (k - 2)) nf) (h ++ N) := by
  have hmv : ∀ {cs : List V} {τ : Nat → Nat} {ty : TypeId} {own : Own}, cs.all isRawV = true → (Blk.cells cs ty own).mv τ nf = .cells cs ty own := fun {cs τ ty own} h => by
    show Blk.cells (mvs τ nf cs) ty own = _
    rw [mvs_raw τ nf cs h]
  have hl : ∀ (B : Blk) (cs : List V) (ty : TypeId) (o : Own), B = .cells cs ty .ro → B.le (.cells cs ty o) := fun B cs ty o e => .inr ⟨cs, ty, o, e, rfl⟩
  have two : ∀ (k : Nat) (X : Blk), ([some (.cells A T .ro), some (.cells B U .ro)] : Heap)[k]? = some (some X) → (k = 0 ∧ X = .cells A T .ro) ∨ (k = 1 ∧ X = .cells B U .ro) := fun k X hk => by
    match k with
    | 0 => simp only [List.getElem?_cons_zero, Option.some.injEq] at hk; exact .inl ⟨rfl, hk.symm⟩
    | 1 => simp only [List.getElem?_cons_succ, List.getElem?_cons_zero, Option.some.injEq] at hk; exact .inr ⟨rfl, hk.symm⟩
    | k + 2 => simp at hk
  have nowr : ∀ k, ¬ wrAt ([some (.cells A T .ro), some (.cells B U .ro)] : Heap) k := fun k ⟨X, hX, hw⟩ => by
    rcases two k X hX with ⟨_, rfl⟩ | ⟨_, rfl⟩ <;> cases hw
  have hi := lt_len h1
  have hj := lt_len h2
  refine embed (H := [some (.cells A T .ro), some (.cells B U .ro)]) (fun k => if k = 0 then i else j) (fun p hp => by rw [hG] at hp; cases hp) hm (by simp) hua (by omega) (fun k hk => by omega) ?_ ?_ (fun k hk => by omega) ?_ ?_ ?_ ?_ (by simp) (fun k hk => by omega) ?_
  · intro k X hX
    rcases two k X hX with ⟨_, rfl⟩ | ⟨_, rfl⟩
    · exact unders_raws _ _ hA
    · exact unders_raws _ _ hB
  · intro k X hk hX
    rw [List.getElem?_append_right hk] at hX
    exact (hnew _ X hX).1
  · intro k hk
    show (if k = 0 then i else j) < h.length
    split <;> assumption
  · intro k X hX
    rcases two k X hX with ⟨rfl, rfl⟩ | ⟨rfl, rfl⟩
    · exact ⟨_, h1, by rw [hmv hA]; exact hl _ _ _ _ rfl, fun hw => by cases hw⟩
    · exact ⟨_, h2, by rw [hmv hB]; exact hl _ _ _ _ rfl, fun hw => by cases hw⟩
  · intro a b ha
    exact absurd ha (nowr a)
  · intro k _ hk
    exact absurd hk (nowr k)
  · intro k X hX
    rcases Nat.lt_or_ge k h.length with hk | hk
    · rw [List.getElem?_append_left hk] at hX
      exact .inr ⟨hk, hX, fun i' _ hw => absurd hw (nowr i')⟩
    · rw [List.getElem?_append_right hk] at hX
      obtain ⟨_, cs, ty, own, rfl, hc⟩ := hnew _ X hX
      refine .inl ⟨2 + (k - h.length), _, ?_, ?_, fun hlt => absurd (show 2 + (k - h.length) < 2 from hlt) (by omega), (hmv hc).symm⟩
      · rw [List.getElem?_append_right (show 2 ≤ 2 + (k - h.length) by omega)]
        show N[2 + (k - h.length) - 2]? = _
        rw [show 2 + (k - h.length) - 2 = k - h.length by omega]
        exact hX
      · refine Eq.trans ?_ (if_neg (fun hlt => absurd (show 2 + (k - h.length) < 2 from hlt) (by omega))).symm
        show k = h.length + (2 + (k - h.length) - 2)
        omega
theorem below1 {c : Cfg} {lim0 lim : Nat} (hL : c.L = 0) (hG : c.G = []) {f : FuncId} {args : List V} {A : List V} {T : TypeId} {N h : Heap} {v : V} (i : Nat)
    (hm : Meets c lim0 f args [some (.cells A T .ro)] v ([some (.cells A T .ro)] ++ N))
    (hA : A.all isRawV = true) (hua : unders 1 args = true)
    (hnew : ∀ (k : Nat) (X : Blk), N[k]? = some (some X) → X.wr = true ∧ ∃ cs ty own, X = .cells cs ty own ∧ cs.all isRawV = true)
    {o1 : Own} (h1 : h[i]? = some (some (.cells A T o1))) (hlim : lim ≤ h.length) :
    Meets c lim f (mvs (fun _ => i) nf args) h (v.mv (fun k => if k < 1 then i else h.length + (k - 1)) nf) (h ++ N) := by
  have hmv : ∀ {cs : List V} {τ : Nat → Nat} {ty : TypeId} {own : Own}, cs.all isRawV = true → (Blk.cells cs ty own).mv τ nf = .cells cs ty own := fun {cs τ ty own} h => by
    show Blk.cells (mvs τ nf cs) ty own = _
    rw [mvs_raw τ nf cs h]
  have one : ∀ (k : Nat) (X : Blk), ([some (.cells A T .ro)] : Heap)[k]? = some (some X) → k = 0 ∧ X = .cells A T .ro := fun k X hk => by
    match k with
    | 0 => simp only [List.getElem?_cons_zero, Option.some.injEq] at hk; exact ⟨rfl, hk.symm⟩
    | k + 1 => simp at hk
  have nowr : ∀ k, ¬ wrAt ([some (.cells A T .ro)] : Heap) k := fun k ⟨X, hX, hw⟩ => by
    obtain ⟨_, rfl⟩ := one k X hX
    cases hw
  have hi := lt_len h1
  refine embed (H := [some (.cells A T .ro)]) (fun _ => i) (fun p hp => by rw [hG] at hp; cases hp) hm (by simp) hua (by omega) (fun k hk => by omega) ?_ ?_ (fun k hk => by omega) ?_ ?_ ?_ ?_ (by simp) (fun k hk => by omega) ?_
  · intro k X hX
    obtain ⟨_, rfl⟩ := one k X hX
    exact unders_raws _ _ hA
  · intro k X hk hX
    rw [List.getElem?_append_right hk] at hX
    exact (hnew _ X hX).1
  · intro k hk
    exact hi
  · intro k X hX
    obtain ⟨rfl, rfl⟩ := one k X hX
    exact ⟨_, h1, by rw [hmv hA]; exact .inr ⟨_, _, _, rfl, rfl⟩, fun hw => by cases hw⟩
  · intro a b ha
    exact absurd ha (nowr a)
  · intro k _ hk
    exact absurd hk (nowr k)
  · intro k X hX
    rcases Nat.lt_or_ge k h.length with hk | hk
    · rw [List.getElem?_append_left hk] at hX
      exact .inr ⟨hk, hX, fun i' _ hw => absurd hw (nowr i')⟩
    · rw [List.getElem?_append_right hk] at hX
      obtain ⟨_, cs, ty, own, rfl, hc⟩ := hnew _ X hX
      refine .inl ⟨1 + (k - h.length), _, ?_, ?_, fun hlt => absurd (show 1 + (k - h.length) < 1 from hlt) (by omega), (hmv hc).symm⟩
      · rw [List.getElem?_append_right (show 1 ≤ 1 + (k - h.length) by omega)]
        show N[1 + (k - h.length) - 1]? = _
        rw [show 1 + (k - h.length) - 1 = k - h.length by omega]
        exact hX
      · refine Eq.trans ?_ (if_neg (fun hlt => absurd (show 1 + (k - h.length) < 1 from hlt) (by omega))).symm
        show k = h.length + (1 + (k - h.length) - 1)
        omega
end Go.Proofs.Ytmelbcmfahcffaa.E2
end
section
namespace Go.Proofs.Ytmelbcmfahcffaa.E2
open Go Go.RowKit
section
variable {c : Cfg} {lim n0 : Nat} {rnd : Option Nat} {x : Code}
theorem rounds_from (hb : ∀ b, rnd = some b → b < n0) (T : Nat → List V) (H : Nat → Heap) (n : Nat) {e : Ex} {Te : List V} {He : Heap} (he : e ≠ .normal)
    (hstep : ∀ i, i < n → Runs c lim n0 rnd x (T i) (H i) .normal (T (i + 1)) (H (i + 1))) (hend : Runs c lim n0 rnd x (T n) (H n) e Te He) : ∀ k i, i + k = n → ∃ m, Rounds c lim n0 rnd x m (T i) (H i) e Te He := by
  intro k
  induction k with
  | zero =>
    intro i hi
    have : i = n := by omega
    subst this
    exact ⟨1, rounds_done hend he⟩
  | succ k ih =>
    intro i hi
    obtain ⟨m, hm⟩ := ih (i + 1) (by omega)
    exact ⟨m + 1, rounds_more hb (hstep i (by omega)) hm⟩
theorem upto (hb : ∀ b, rnd = some b → b < n0) (T : Nat → List V) (H : Nat → Heap) (n : Nat) {e : Ex} {Te : List V} {He : Heap} (he : e ≠ .normal)
    (hstep : ∀ i, i < n → Runs c lim n0 rnd x (T i) (H i) .normal (T (i + 1)) (H (i + 1))) (hend : Runs c lim n0 rnd x (T n) (H n) e Te He) : Runs c lim n0 rnd (.loop x) (T 0) (H 0) e Te He := by
  obtain ⟨m, hm⟩ := rounds_from hb T H n he hstep hend n 0 (by omega)
  exact runs_loop hm
theorem upto_find (hb : ∀ b, rnd = some b → b < n0) (good : Nat → Bool) (T : Nat → List V) (H : Nat → Heap) (n : Nat) {e e1 : Ex} {Te : List V} {He : Heap} (T1 : Nat → List V) (H1 : Nat → Heap) (he : e ≠ .normal) (he1 : e1 ≠ .normal)
    (hstep : ∀ i, i < n → good i = true → Runs c lim n0 rnd x (T i) (H i) .normal (T (i + 1)) (H (i + 1))) (hbad : ∀ i, i < n → good i = false → Runs c lim n0 rnd x (T i) (H i) e1 (T1 i) (H1 i)) (hend : Runs c lim n0 rnd x (T n) (H n) e Te He) :
    ((List.range n).all good = true ∧ Runs c lim n0 rnd (.loop x) (T 0) (H 0) e Te He) ∨ ((List.range n).all good = false ∧ ∃ i, i < n ∧ good i = false ∧ (∀ j, j < i → good j = true) ∧ Runs c lim n0 rnd (.loop x) (T 0) (H 0) e1 (T1 i) (H1 i)) := by
  cases h : (List.range n).all good with
  | true =>
    left
    rw [List.all_eq_true] at h
    exact ⟨rfl, upto hb T H n he (fun i hi => hstep i hi (h i (List.mem_range.2 hi))) hend⟩
  | false =>
    right
    refine ⟨rfl, ?_⟩
    have : ∃ i, i < n ∧ good i = false ∧ ∀ j, j < i → good j = true := by
      clear hstep hbad hend
      induction n with
      | zero => simp at h
      | succ n ih =>
        rw [List.range_succ, List.all_append] at h
        cases h2 : (List.range n).all good with
        | false =>
          obtain ⟨i, a, b, d⟩ := ih h2
          exact ⟨i, by omega, b, d⟩
        | true =>
          rw [h2] at h
          simp at h
          exact ⟨n, by omega, h, fun j hj => List.all_eq_true.1 h2 j (List.mem_range.2 hj)⟩
    obtain ⟨i, hi, hbi, hlt⟩ := this
    refine ⟨i, hi, hbi, hlt, ?_⟩
    exact upto hb T H i he1 (fun j hj => hstep j (by omega) (hlt j hj)) (hbad i hi hbi)
end
section
variable {c : Cfg} {lim n0 : Nat} {rnd : Option Nat} {x : Code}
end
theorem new_row (zs : List Int) (T : TypeId) (own : Own) (hw : (Blk.cells (ints zs) T own).wr = true := by rfl) : ∀ (k : Nat) (X : Blk), ([some (Blk.cells (ints zs) T own)] : Heap)[k]? = some (some X) → X.wr = true ∧ ∃ cs ty own, X = .cells cs ty own ∧ cs.all isRawV = true := fun k X h => by
  match k with
  | 0 =>
    simp only [List.getElem?_cons_zero, Option.some.injEq] at h
    subst h
    exact ⟨hw, _, _, _, rfl, ints_all zs⟩
  | k + 1 => simp at h
def tab (n : Nat) (f : Nat → Int) : List Int := (List.range n).map f
theorem tab_len (n : Nat) (f : Nat → Int) : (tab n f).length = n := by simp [tab]
theorem at_tab {n : Nat} {f : Nat → Int} {k : Nat} (h : k < n) : at' (tab n f) k = f k := by
  simp [at', tab, List.getD, h]
theorem all_range {n : Nat} {g : Nat → Bool} (h : (List.range n).all g = true) : ∀ i, i < n → g i = true := fun i hi => List.all_eq_true.1 h i (List.mem_range.2 hi)
end Go.Proofs.Ytmelbcmfahcffaa.E2
end
section
namespace Go.Proofs.Ytmelbcmfahcffaa.E2
open Go Go.RowKit
def bools (bs : List Bool) : List V := bs.map fun b => .raw (.bool b)
theorem bools_all (bs : List Bool) : (bools bs).all isRawV = true := by
  rw [List.all_eq_true]
  intro x hx
  obtain ⟨v, _, rfl⟩ := List.mem_map.1 hx
  rfl
end Go.Proofs.Ytmelbcmfahcffaa.E2
end
section
namespace Go.Proofs.Ytmelbcmfahcffaa.K
open Go Go.Deep Go.ChangeShapes Go.WideShapes Go.ChangeAt Go.RowKit
section
variable {H : Type} {enc : TypeId × Value → H} {P : Program}
theorem trod_stays {t : TypeId} (hl : laidOutB P = true) (hr : P.readableRec t = true) (hrow : t < P.types.size) {W W' : World} {v : Value} {d : DataW H} {ps : List MemPlace} {sp : Nat → Bool}
    (h : DataW.Trod enc P W 0 (fun _ => true) true t v d ps) (hb : Below W.heap.size W W') (hlt : ∀ x ∈ ps, x.block < W.heap.size) (hsp : ∀ x ∈ ps, sp x.block = true) :
    DataW.Trod enc P W' 0 sp true t v d ps :=
  WideElems.Trod_stays hl hr hrow h (fun x hx => hb.same (hlt x hx)) hsp
theorem all_stays (hl : laidOutB P = true) {W W' : World} {sp : Nat → Bool} (hb : Below W.heap.size W W') : ∀ (ts : List TypeId) (vs : List Value) (ds : List (DataW H)) (p : List MemPlace),
    (∀ t ∈ ts, P.readableRec t = true ∧ t < P.types.size) → DataW.TrodAll enc P W 0 (fun _ => true) true ts vs ds p → (∀ x ∈ p, x.block < W.heap.size) → (∀ x ∈ p, sp x.block = true) → DataW.TrodAll enc P W' 0 sp true ts vs ds p
  | [], vs, ds, p, _, h, _, _ => by
    obtain ⟨rfl, rfl, rfl⟩ := trodAll_nil h
    exact trodAll_mk0
  | t :: ts, vs, ds, p, hr, h, hlt, hsp => by
    obtain ⟨v0, vs0, d0, ds0, p0, q0, rfl, rfl, rfl, h0, r0⟩ := trodAll_cons h
    have h1 := hr t List.mem_cons_self
    exact trodAll_cons_mk (trod_stays hl h1.1 h1.2 h0 hb (fun x hx => hlt x (List.mem_append_left _ hx)) (fun x hx => hsp x (List.mem_append_left _ hx)))
      (all_stays hl hb ts vs0 ds0 q0 (fun t ht => hr t (List.mem_cons_of_mem _ ht)) r0 (fun x hx => hlt x (List.mem_append_right _ hx)) (fun x hx => hsp x (List.mem_append_right _ hx)))
theorem law_post {f : Func} {s : ChangeSpec} {tb : TypeId} {W W' : World} {args : Array Value} {ds gs : List (DataW H)} {before : List MemPlace}
    (hl : laidOutB P = true) (hrd : ∀ t ∈ f.params.toList, P.readableRec t = true ∧ t < P.types.size) (hrt : f.resultTypes = #[tb]) (hub : P.underlying tb = some .bool) (hv : s.vars = [])
    (hW : DataW.Whole enc P f.params.toList s.vars false W args.toList ds gs before) (hfn : s.fn H (ds ++ gs) = { results := [.lit (.bool true)], args := ds }) (hb : Below W.heap.size W W') :
    s.post enc P f false true false false W args (.bool true) W' := by
  have hW' := hW
  obtain ⟨p, q, hA, hV, rfl, hz, hn⟩ := hW'
  have hlt : ∀ x ∈ p ++ q, x.block < W.heap.size := fun x hx => hW.lt x hx
  rw [hv] at hV
  obtain ⟨rfl, rfl⟩ := trodVars_none hV
  have hargs : ∀ sp : Nat → Bool, (∀ x ∈ p ++ [], sp x.block = true) → DataW.TrodAll enc P W' 0 sp true f.params.toList args.toList (s.fn H (ds ++ [])).args p := fun sp hsp => by
    rw [hfn]
    exact all_stays hl hb _ _ _ _ hrd hA (fun x hx => hlt x (by simpa using hx)) (fun x hx => hsp x (by simpa using hx))
  have hres : ∀ (b : Nat) (sp : Nat → Bool) (hd : Bool), DataW.TrodAll enc P W' b sp hd f.resultTypes.toList ((Value.bool true).resultList f.resultTypes.size) (s.fn H (ds ++ [])).results [] := fun b sp hd => by
    rw [hfn, hrt]
    exact trodAll_cons_mk (shut_bool hub _) trodAll_mk0
  have hvars : ∀ sp : Nat → Bool, DataW.TrodVars enc P W' sp s.vars (s.fn H (ds ++ [])).vars [] := fun sp => by
    rw [hfn, hv]
    rfl
  have hold : ∀ x ∈ p ++ [], (fun b => decide (b < W.heap.size)) x.block = true := fun x hx => by simpa using hlt x hx
  refine ⟨ds, [], p ++ [], [], p, [], hW, hres _ _ _, hargs _ hold, hvars _, World.keptBut_mono (fun x hx => ⟨hx, ?_⟩) (hb.frame (· ∈ p ++ [])), fun _ => ?_⟩
  · rw [List.mem_append] at hx
    exact Or.inr hx
  · refine ⟨?_, _, _, ([] ++ p) ++ [], ⟨[] ++ p, [], trodAll_append (hargs _ (fun _ _ => rfl)) (hres _ _ _), hvars _, rfl, ?_, ?_⟩, ?_⟩
    · exact ok_one hrt rfl (okWide_bool_mk hub _)
    · intro b off hp
      have hin : MemPlace.cell b off ∈ p ++ [] := by simpa using hp
      rw [hb.frozen (hlt _ hin)]
      exact hz b off hin
    · intro ha
      cases ha
    · intro x hx _
      simpa using hx
end
end Go.Proofs.Ytmelbcmfahcffaa.K
end
section
namespace Go.Proofs.Ytmelbcmfahcffaa.K
open Go Go.Deep Go.ChangeShapes Go.WideShapes Go.ChangeAt Go.RowKit
def flatFs (P : Program) (rec : TypeId → Option (List (Option IntKind))) : Nat → List Field → Option (List (Option IntKind))
  | _, [] => some []
  | off, f :: fs => match rec f.type with
    | some l => if f.offset = off ∧ P.cellsOf f.type = l.length then (flatFs P rec (off + l.length) fs).map (l ++ ·) else none
    | none => none
def flatK (P : Program) : Nat → TypeId → Option (List (Option IntKind))
  | 0, _ => none
  | d + 1, t => match P.underlying t with
    | some .bool => some [none]
    | some (.int k) => some [some k]
    | some (.struct fs) => match flatFs P (flatK P d) 0 fs.toList with
      | some l => if l.length = P.cellsOf t then some l else none
      | none => none
    | _ => none
def AllOk : List (Option IntKind) → List Value → Prop
  | [], cs => cs = []
  | some k :: l, cs => ∃ n rest, cs = .int k n :: rest ∧ (Lit.int k n).wf = true ∧ AllOk l rest
  | none :: l, cs => ∃ b rest, cs = .bool b :: rest ∧ AllOk l rest
theorem AllOk.append : ∀ {l m : List (Option IntKind)} {cs ds : List Value}, AllOk l cs → AllOk m ds → AllOk (l ++ m) (cs ++ ds)
  | [], m, cs, ds, h, k => by
    have : cs = [] := h
    subst this; exact k
  | some x :: l, m, cs, ds, h, k => by
    obtain ⟨n, rest, rfl, hw, hr⟩ := h
    exact ⟨n, rest ++ ds, rfl, hw, hr.append k⟩
  | none :: l, m, cs, ds, h, k => by
    obtain ⟨n, rest, rfl, hr⟩ := h
    exact ⟨n, rest ++ ds, rfl, hr.append k⟩
theorem AllOk.length : ∀ {l : List (Option IntKind)} {cs : List Value}, AllOk l cs → cs.length = l.length
  | [], cs, h => by
    have : cs = [] := h
    subst this; rfl
  | some x :: l, cs, h => by
    obtain ⟨n, rest, rfl, hw, hr⟩ := h
    simp [hr.length]
  | none :: l, cs, h => by
    obtain ⟨n, rest, rfl, hr⟩ := h
    simp [hr.length]
section
variable {H : Type} {enc : TypeId × Value → H} {P : Program} {w : World} {base : Nat} {spare : Nat → Bool} {held : Bool}
theorem flat_fields {rec : TypeId → Option (List (Option IntKind))} {n : Nat} (hrec : ∀ t l cs x, rec t = some l → DataW.trod enc P w base spare held n t cs = some x → AllOk l cs) (cs : List Value) :
    ∀ (fs : List Field) (off : Nat) (l : List (Option IntKind)), flatFs P rec off fs = some l → off + l.length ≤ cs.length → (∀ f ∈ fs, ∃ x, DataW.trod enc P w base spare held n f.type ((cs.drop f.offset).take (P.cellsOf f.type)) = some x) → AllOk l ((cs.drop off).take l.length)
  | [], off, l, h, hl, hf => by
    simp only [flatFs, Option.some.injEq] at h
    subst h
    simp [AllOk]
  | f :: fs, off, l, h, hl, hf => by
    simp only [flatFs] at h
    split at h
    · rename_i m hm
      split at h
      · rename_i hh
        obtain ⟨h1, h2⟩ := hh
        rw [Option.map_eq_some_iff] at h
        obtain ⟨k, hk, rfl⟩ := h
        obtain ⟨x, hx⟩ := hf f List.mem_cons_self
        rw [h1, h2] at hx
        have a1 := hrec _ _ _ _ hm hx
        have a2 := flat_fields hrec cs fs (off + m.length) k hk (by simp at hl; omega) (fun g hg => hf g (List.mem_cons_of_mem _ hg))
        have e : (cs.drop off).take (m ++ k).length = (cs.drop off).take m.length ++ (cs.drop (off + m.length)).take k.length := by
          rw [List.length_append, List.take_add, List.drop_drop]
        rw [e]
        exact a1.append a2
      · cases h
    · cases h
theorem flat_cells : ∀ (d : Nat) (fuel : Nat) (t : TypeId) (l : List (Option IntKind)) (cs : List Value) (x : DataW H × List MemPlace), flatK P d t = some l → DataW.trod enc P w base spare held fuel t cs = some x → AllOk l cs
  | 0, fuel, t, l, cs, x, h, hx => by simp [flatK] at h
  | d + 1, fuel, t, l, cs, x, h, hx => by
    simp only [flatK] at h
    split at h
    · rename_i hu
      simp only [Option.some.injEq] at h
      subst h
      cases fuel with
      | zero => simp [DataW.trod] at hx
      | succ m =>
        unfold DataW.trod at hx
        rw [hu] at hx
        split at hx <;> simp_all [AllOk]
    · rename_i k hu
      simp only [Option.some.injEq] at h
      subst h
      cases fuel with
      | zero => simp [DataW.trod] at hx
      | succ m =>
        unfold DataW.trod at hx
        rw [hu] at hx
        split at hx <;> simp_all [AllOk]
    · rename_i fs hu
      split at h
      · rename_i m hm
        split at h
        · rename_i hlen
          simp only [Option.some.injEq] at h
          subst h
          obtain ⟨xs, n, _, rfl, hl, hxl, hf⟩ := DataW.trod_struct hu hx
          have := flat_fields (n := n) (fun t l cs x h1 h2 => flat_cells d n t l cs x h1 h2) cs fs.toList 0 m hm (by omega) (fun f hfm => by
            obtain ⟨i, hi⟩ := List.getElem?_of_mem hfm
            have hlt : i < xs.length := by
              have : i < fs.toList.length := by
                rcases Nat.lt_or_ge i fs.toList.length with k | k
                · exact k
                · rw [List.getElem?_eq_none k] at hi; cases hi
              simp at this
              omega
            exact ⟨xs[i], (hf i f (by simpa using hi)).trans (List.getElem?_eq_getElem hlt)⟩)
          rw [List.drop_zero, List.take_of_length_le (by omega)] at this
          exact this
        · cases h
      · cases h
    · cases h
theorem flat_open {r : Reach} {b0 : Nat} {t : TypeId} {fs : Array Field} {l : List (Option IntKind)} {v : Value} {dd : DataW H} {p : List MemPlace} (hs : P.underlying t = some (.struct fs)) (hl : flatK P 9 t = some l) (hv : Value.okWide P w r b0 t v) (h : DataW.Trod enc P w base spare held t v dd p) :
    ∃ cs, v = .agg ⟨cs⟩ ∧ AllOk l cs := by
  obtain ⟨⟨cs⟩, rfl, _⟩ := okWide_struct hs hv
  obtain ⟨fuel, hf⟩ := h
  exact ⟨cs, rfl, flat_cells 9 fuel t l cs _ hl hf⟩
end
end Go.Proofs.Ytmelbcmfahcffaa.K
end
section
namespace Go.Proofs.Ytmelbcmfahcffaa.K
open Go Go.Deep Go.ChangeShapes Go.WideShapes Go.ChangeAt Go.RowKit
theorem rowAt_le {P : Program} {fits : TypeId → Bool} : ∀ (d : Nat) (e : TypeId) (count off n : Nat), rowAt P fits d e count off n = true → off ≤ count * P.cellsOf e
  | 0, _, _, _, _, h => by simp [rowAt] at h
  | d + 1, e, count, off, n, h => by
    unfold rowAt at h
    dsimp only at h
    split at h
    · cases h
    · rename_i hs
      have e1 : off = off / P.cellsOf e * P.cellsOf e + off % P.cellsOf e := by
        have := Nat.div_add_mod off (P.cellsOf e)
        rw [Nat.mul_comm] at this
        omega
      have hlt : off % P.cellsOf e < P.cellsOf e := Nat.mod_lt _ (by omega)
      rw [Bool.or_eq_true] at h
      rcases h with h | h
      · simp only [Bool.and_eq_true, beq_iff_eq, decide_eq_true_eq] at h
        obtain ⟨⟨h1, h2⟩, _⟩ := h
        have : off / P.cellsOf e * P.cellsOf e ≤ count * P.cellsOf e := Nat.mul_le_mul_right _ (by omega)
        omega
      · simp only [Bool.and_eq_true, decide_eq_true_eq] at h
        have : (off / P.cellsOf e + 1) * P.cellsOf e ≤ count * P.cellsOf e := Nat.mul_le_mul_right _ (by omega)
        rw [Nat.add_mul] at this
        omega
theorem liesAt_le {P : Program} : ∀ (d : Nat) (e : TypeId) (count off : Nat) (u : TypeId) (n : Nat), liesAt P d e count off u n = true → off ≤ count * P.cellsOf e
  | 0, _, _, _, _, _, h => by simp [liesAt] at h
  | d + 1, e, count, off, u, n, h => by
    unfold liesAt at h
    rw [Bool.or_eq_true] at h
    rcases h with h | h
    · exact rowAt_le _ _ _ _ _ h
    · split at h
      · exact liesAt_le d _ _ _ _ _ h
      · cases h
theorem allOk_get : ∀ (n : Nat) (cs : List Value), AllOk (List.replicate n (some .i64)) cs → ∀ j, j < n → ∃ z, cs[j]? = some (.int .i64 z) ∧ (Lit.int .i64 z).wf = true
  | 0, _, _, j, hj => by omega
  | n + 1, cs, h, j, hj => by
    rw [List.replicate_succ] at h
    obtain ⟨z, rest, rfl, hw, hr⟩ := h
    cases j with
    | zero => exact ⟨z, rfl, hw⟩
    | succ j =>
      obtain ⟨y, h1, h2⟩ := allOk_get n rest hr j (by omega)
      exact ⟨y, by simpa using h1, h2⟩
def numOf : Value → Int
  | .int _ z => z
  | _ => 0
section
variable {H : Type} {enc : TypeId × Value → H} {P : Program} {w : World} {base : Nat} {spare : Nat → Bool} {held : Bool}
theorem open_row {r : Reach} {b0 : Nat} {t e : TypeId} {n : Nat} {v : Value} {dd : DataW H} {p : List MemPlace} (hs : P.underlying t = some (.slice e)) (hl : flatK P 9 e = some (List.replicate n (some .i64))) (hc : P.cellsOf e = n) (hn : 0 < n) (hv : Value.okWide P w r b0 t v) (h : DataW.Trod enc P w base spare held t v dd p) :
    ∃ (l : E2.Loc) (m : Nat) (zs : List Int) (T : TypeId), v = E2.slcOf l m ∧ zs.length = m * n ∧ (∀ z ∈ zs, (Lit.int .i64 z).wf = true) ∧ ∀ ρ, E2.CellsOk ρ l w (E2.ints zs) T .ro := by
  obtain ⟨a0, len0, cap0, rfl⟩ := okWide_slice hs hv
  obtain ⟨fuel, hf⟩ := h
  rcases DataW.trod_slice hs hf with ⟨h0, _⟩ | ⟨a, len, cap, elems, rest, k, _, h0, _, hb, hlc, hcm, hlen, hel, _, _⟩
  · have : Value.slice a0 len0 cap0 = .slice none 0 0 := by simpa [Value.cells] using h0
    rw [this]
    exact ⟨⟨0, [], [], 0, true⟩, 0, [], 0, rfl, by simp, fun z hz => (by cases hz), fun ρ => ⟨fun _ => rfl, fun hq => (by cases hq), fun sz hq => (by cases hq)⟩⟩
  · have hvv : Value.slice a0 len0 cap0 = .slice (some a) len cap := by simpa [Value.cells] using h0
    rw [hvv] at hv ⊢
    -- the block
    have hok : w.has P r b0 a e cap := by
      unfold Value.okWide at hv
      rw [hs] at hv
      simp only [Cell.okWide, hs, Cell.ok] at hv
      exact hv.2.2
    obtain ⟨_, hspot, row, size, hsh, hlies⟩ := hok
    obtain ⟨c, fr, hblk, rfl⟩ : ∃ c fr, w.heap[a.block]? = some (.cells c row fr) ∧ size = c.size := by
      unfold World.shape? at hsh
      split at hsh
      · rename_i c elem fr hb
        simp only [Option.some.injEq, Prod.mk.injEq] at hsh
        obtain ⟨rfl, rfl⟩ := hsh
        exact ⟨c, fr, hb, rfl⟩
      · cases hsh
    have hoff : a.off ≤ c.size := Nat.le_trans (liesAt_le _ _ _ _ _ _ hlies) (Nat.div_mul_le_self _ _)
    have hcell : ∀ i j, i < len → j < n → ∃ z, c[a.off + (i * n + j)]? = some (.int .i64 z) ∧ (Lit.int .i64 z).wf = true := by
      intro i j hi hj
      have h1 := hel i hi
      rw [List.getElem?_eq_getElem (by omega)] at h1
      obtain ⟨cs, h2, h3⟩ := Option.bind_eq_some_iff.1 h1
      rw [hc] at h2
      obtain ⟨z, h4, h5⟩ := allOk_get n cs (flat_cells 9 _ _ _ _ _ hl h3) j hj
      obtain ⟨_, _, h6⟩ := World.cells?_some h2
      have h7 := h6 j hj
      rw [Deep.add_add] at h7
      have h8 : w.cell? (a.add (i * n + j)) = c[a.off + (i * n + j)]? := by
        unfold World.cell? Addr.add
        by_cases hz : i * n + j = 0
        · rw [if_pos hz, hblk, hz]; simp [hspot]
        · rw [if_neg hz]; simp [hblk]
      exact ⟨z, by rw [← h8, h7]; exact h4, h5⟩
    have hat : ∀ k, k < len * n → ∃ z, c[a.off + k]? = some (.int .i64 z) ∧ (Lit.int .i64 z).wf = true := by
      intro k hk
      have hi : k / n < len := by rw [Nat.div_lt_iff_lt_mul hn]; exact hk
      have := hcell (k / n) (k % n) hi (Nat.mod_lt _ hn)
      have e1 : k / n * n + k % n = k := by
        have := Nat.div_add_mod k n
        rw [Nat.mul_comm] at this
        exact this
      rwa [e1] at this
    have hfit : a.off + len * n ≤ c.size := by
      rcases Nat.eq_zero_or_pos (len * n) with h0 | h0
      · omega
      · obtain ⟨z, hz, _⟩ := hat (len * n - 1) (by omega)
        have := (Array.getElem?_eq_some_iff.1 hz).1
        omega
    refine ⟨⟨a.block, c.toList.take a.off, c.toList.drop (a.off + len * n), cap, false⟩, len, ((c.toList.drop a.off).take (len * n)).map numOf, row, ?_, ?_, ?_, fun ρ => ⟨fun hq => (by cases hq), fun _ => ⟨fr, ?_, fun hq => absurd rfl hq⟩, fun sz hq => (by cases hq)⟩⟩
    · unfold E2.slcOf
      rw [if_neg (by simp)]
      have e1 : (c.toList.take a.off).length = a.off := by simp; omega
      simp only [e1]
      cases a with
      | mk b o s => simp only at hspot; subst hspot; rfl
    · simp; omega
    · intro z hz
      obtain ⟨u, hu, rfl⟩ := List.mem_map.1 hz
      obtain ⟨k, hk⟩ := List.getElem?_of_mem hu
      rw [List.getElem?_take] at hk
      split at hk
      · rename_i hlt
        obtain ⟨y, h1, h2⟩ := hat k hlt
        rw [List.getElem?_drop, Array.getElem?_toList, h1] at hk
        cases hk
        exact h2
      · cases hk
    · have e2 : E2.concs ρ (E2.ints (((c.toList.drop a.off).take (len * n)).map numOf)) = (c.toList.drop a.off).take (len * n) := by
        have : E2.ints (((c.toList.drop a.off).take (len * n)).map numOf) = (((c.toList.drop a.off).take (len * n))).map .raw := by
          unfold E2.ints
          rw [List.map_map]
          refine List.map_congr_left fun u hu => ?_
          obtain ⟨k, hk⟩ := List.getElem?_of_mem hu
          rw [List.getElem?_take] at hk
          split at hk
          · rename_i hlt
            obtain ⟨y, h1, h2⟩ := hat k hlt
            rw [List.getElem?_drop, Array.getElem?_toList, h1] at hk
            cases hk
            rfl
          · cases hk
        rw [this, E2.concs_raw]
      rw [e2]
      have e3 : c.toList.take a.off ++ (c.toList.drop a.off).take (len * n) ++ c.toList.drop (a.off + len * n) = c.toList := by
        rw [List.append_assoc, ← List.drop_drop, List.take_append_drop, List.take_append_drop]
      show w.heap[a.block]? = some (.cells (c.toList.take a.off ++ (c.toList.drop a.off).take (len * n) ++ c.toList.drop (a.off + len * n)).toArray row fr)
      rw [e3]
      exact hblk
end
end Go.Proofs.Ytmelbcmfahcffaa.K
namespace Go.Proofs.Ytmelbcmfahcffaa.E2
open Go Go.RowKit
end Go.Proofs.Ytmelbcmfahcffaa.E2
end
section
namespace Go.Proofs.Ytmelbcmfahcffaa.E2
open Go Go.RowKit
def nz (zs : List Int) (k : Nat) : Bool := !decide (at' zs k = 0)
def cellV (zs : List Int) (b : Bool) (k : Nat) : Value := match b with
  | true => .bool (nz zs k)
  | false => .int .i64 (at' zs k)
def mix (ks : List Bool) (zs : List Int) : List V := (List.range zs.length).map fun k => .raw (cellV zs (ks.getD (k % ks.length) false) k)
theorem mix_all (ks : List Bool) (zs : List Int) : (mix ks zs).all isRawV = true := by
  rw [List.all_eq_true]
  intro x hx
  obtain ⟨k, _, rfl⟩ := List.mem_map.1 hx
  rfl
theorem mix_len (ks : List Bool) (zs : List Int) : (mix ks zs).length = zs.length := by simp [mix]
theorem mix_get (ks : List Bool) (zs : List Int) {k : Nat} (h : k < zs.length) : (mix ks zs)[k]? = some (.raw (cellV zs (ks.getD (k % ks.length) false) k)) := by
  unfold mix
  rw [List.getElem?_map, List.getElem?_range h]
  rfl
theorem load_mix {c : Cfg} {ks : List Bool} {zs : List Int} {T : TypeId} {off : Nat} (n q : Nat) (hT : pureRun c.P (isAgg T) = some true) (hn : pureRun c.P (Go.sizeOf T) = some n) (h0 : 0 < n) (hq : off % ks.length = q) (hk : q + n ≤ ks.length) (h : off + n ≤ zs.length) :
    loadRow c T (mix ks zs) off = some (.raw (.agg ((List.range n).map fun j => cellV zs (ks.getD (q + j) false) (off + j)).toArray)) := by
  unfold loadRow
  rw [hT, hn]
  dsimp only
  rw [if_pos ⟨h0, by rw [mix_len]; exact h⟩]
  have e : List.take n (List.drop off (mix ks zs)) = ((List.range n).map fun j => cellV zs (ks.getD (q + j) false) (off + j)).map V.raw := by
    apply List.ext_getElem?
    intro j
    rw [List.getElem?_take, List.getElem?_map, List.getElem?_map]
    by_cases hj : j < n
    · rw [if_pos hj, List.getElem?_drop, mix_get ks zs (by omega), List.getElem?_range hj]
      have : (off + j) % ks.length = q + j := by
        rw [Nat.add_mod, hq, Nat.mod_eq_of_lt (show j < ks.length by omega), Nat.mod_eq_of_lt (by omega)]
      rw [this]
      rfl
    · rw [if_neg hj, List.getElem?_eq_none (by simp; omega : (List.range n).length ≤ j)]
      rfl
  rw [e]
  unfold mkAgg
  rw [raws_raw]
end Go.Proofs.Ytmelbcmfahcffaa.E2
namespace Go.Proofs.Ytmelbcmfahcffaa.K
open Go Go.Deep Go.ChangeShapes Go.WideShapes Go.ChangeAt Go.RowKit
def kindK (b : Bool) : Option IntKind := match b with
  | true => none
  | false => some .i64
def numB : Value → Int
  | .int _ z => z
  | .bool b => if b then 1 else 0
  | _ => 0
def cellOk (b : Bool) (v : Value) : Prop := match b with
  | true => ∃ q, v = .bool q
  | false => ∃ z, v = .int .i64 z ∧ (Lit.int .i64 z).wf = true
theorem allOk_getK : ∀ (ks : List Bool) (cs : List Value), AllOk (ks.map kindK) cs → ∀ j, j < ks.length → ∃ v, cs[j]? = some v ∧ cellOk (ks.getD j false) v
  | [], _, _, j, hj => by simp at hj
  | b :: ks, cs, h, j, hj => by
    have key : ∃ v rest, cs = v :: rest ∧ cellOk b v ∧ AllOk (ks.map kindK) rest := by
      cases b with
      | true =>
        obtain ⟨q, rest, rfl, hr⟩ := h
        exact ⟨_, rest, rfl, ⟨q, rfl⟩, hr⟩
      | false =>
        obtain ⟨z, rest, rfl, hw, hr⟩ := h
        exact ⟨_, rest, rfl, ⟨z, rfl, hw⟩, hr⟩
    obtain ⟨v, rest, rfl, hv, hr⟩ := key
    cases j with
    | zero => exact ⟨v, rfl, hv⟩
    | succ j =>
      obtain ⟨y, h1, h2⟩ := allOk_getK ks rest hr j (by simpa using hj)
      exact ⟨y, by simpa using h1, by simpa using h2⟩
theorem cellV_num {b : Bool} {v : Value} {zs : List Int} {k : Nat} (h : cellOk b v) (hz : E2.at' zs k = numB v) : E2.cellV zs b k = v := by
  cases b with
  | true =>
    obtain ⟨q, rfl⟩ := h
    show Value.bool (!decide (E2.at' zs k = 0)) = _
    rw [hz]
    cases q <;> rfl
  | false =>
    obtain ⟨z, rfl, _⟩ := h
    show Value.int .i64 (E2.at' zs k) = _
    rw [hz]; rfl
section
variable {H : Type} {enc : TypeId × Value → H} {P : Program} {w : World} {base : Nat} {spare : Nat → Bool} {held : Bool}
theorem open_mix {r : Reach} {b0 : Nat} {t e : TypeId} (ks : List Bool) {v : Value} {dd : DataW H} {p : List MemPlace} (hs : P.underlying t = some (.slice e)) (hl : flatK P 9 e = some (ks.map kindK)) (hc : P.cellsOf e = ks.length) (hn : 0 < ks.length) (hv : Value.okWide P w r b0 t v) (h : DataW.Trod enc P w base spare held t v dd p) :
    ∃ (l : E2.Loc) (m : Nat) (zs : List Int) (T : TypeId), v = E2.slcOf l m ∧ zs.length = m * ks.length ∧ (∀ k, k < zs.length → ∃ u, cellOk (ks.getD (k % ks.length) false) u ∧ E2.at' zs k = numB u) ∧ ∀ ρ, E2.CellsOk ρ l w (E2.mix ks zs) T .ro := by
  generalize hnn : ks.length = n at *
  obtain ⟨a0, len0, cap0, rfl⟩ := okWide_slice hs hv
  obtain ⟨fuel, hf⟩ := h
  rcases DataW.trod_slice hs hf with ⟨h0, _⟩ | ⟨a, len, cap, elems, rest, k, _, h0, _, hb, hlc, hcm, hlen, hel, _, _⟩
  · have : Value.slice a0 len0 cap0 = .slice none 0 0 := by simpa [Value.cells] using h0
    rw [this]
    exact ⟨⟨0, [], [], 0, true⟩, 0, [], 0, rfl, by simp, fun k hk => absurd hk (Nat.not_lt_zero k), fun ρ => ⟨fun _ => rfl, fun hq => (by cases hq), fun sz hq => (by cases hq)⟩⟩
  · have hvv : Value.slice a0 len0 cap0 = .slice (some a) len cap := by simpa [Value.cells] using h0
    rw [hvv] at hv ⊢
    have hok : w.has P r b0 a e cap := by
      unfold Value.okWide at hv
      rw [hs] at hv
      simp only [Cell.okWide, hs, Cell.ok] at hv
      exact hv.2.2
    obtain ⟨_, hspot, row, size, hsh, hlies⟩ := hok
    obtain ⟨c, fr, hblk, rfl⟩ : ∃ c fr, w.heap[a.block]? = some (.cells c row fr) ∧ size = c.size := by
      unfold World.shape? at hsh
      split at hsh
      · rename_i c elem fr hb
        simp only [Option.some.injEq, Prod.mk.injEq] at hsh
        obtain ⟨rfl, rfl⟩ := hsh
        exact ⟨c, fr, hb, rfl⟩
      · cases hsh
    have hoff : a.off ≤ c.size := Nat.le_trans (liesAt_le _ _ _ _ _ _ hlies) (Nat.div_mul_le_self _ _)
    have hcell : ∀ i j, i < len → j < n → ∃ u, c[a.off + (i * n + j)]? = some u ∧ cellOk (ks.getD j false) u := by
      intro i j hi hj
      have h1 := hel i hi
      rw [List.getElem?_eq_getElem (by omega)] at h1
      obtain ⟨cs, h2, h3⟩ := Option.bind_eq_some_iff.1 h1
      rw [hc] at h2
      obtain ⟨z, h4, h5⟩ := allOk_getK ks cs (flat_cells 9 _ _ _ _ _ hl h3) j (by omega)
      obtain ⟨_, _, h6⟩ := World.cells?_some h2
      have h7 := h6 j hj
      rw [Deep.add_add] at h7
      have h8 : w.cell? (a.add (i * n + j)) = c[a.off + (i * n + j)]? := by
        unfold World.cell? Addr.add
        by_cases hz : i * n + j = 0
        · rw [if_pos hz, hblk, hz]; simp [hspot]
        · rw [if_neg hz]; simp [hblk]
      exact ⟨z, by rw [← h8, h7]; exact h4, h5⟩
    have hat : ∀ k, k < len * n → ∃ u, c[a.off + k]? = some u ∧ cellOk (ks.getD (k % n) false) u := by
      intro k hk
      have hi : k / n < len := by rw [Nat.div_lt_iff_lt_mul hn]; exact hk
      have := hcell (k / n) (k % n) hi (Nat.mod_lt _ hn)
      have e1 : k / n * n + k % n = k := by
        have := Nat.div_add_mod k n
        rw [Nat.mul_comm] at this
        exact this
      rwa [e1] at this
    have hfit : a.off + len * n ≤ c.size := by
      rcases Nat.eq_zero_or_pos (len * n) with h0 | h0
      · omega
      · obtain ⟨z, hz, _⟩ := hat (len * n - 1) (by omega)
        have := (Array.getElem?_eq_some_iff.1 hz).1
        omega
    generalize hzs : ((c.toList.drop a.off).take (len * n)).map numB = zs
    have hzl : zs.length = len * n := by rw [← hzs]; simp; omega
    have hnum : ∀ k u, k < len * n → c[a.off + k]? = some u → E2.at' zs k = numB u := by
      intro k u hk hu
      rw [← hzs]
      have : (((c.toList.drop a.off).take (len * n)).map numB)[k]? = some (numB u) := by
        rw [List.getElem?_map, List.getElem?_take, if_pos hk, List.getElem?_drop, Array.getElem?_toList, hu]; rfl
      unfold E2.at'
      rw [List.getD_eq_getElem?_getD, this]
      rfl
    refine ⟨⟨a.block, c.toList.take a.off, c.toList.drop (a.off + len * n), cap, false⟩, len, zs, row, ?_, hzl, ?_, fun ρ => ⟨fun hq => (by cases hq), fun _ => ⟨fr, ?_, fun hq => absurd rfl hq⟩, fun sz hq => (by cases hq)⟩⟩
    · unfold E2.slcOf
      rw [if_neg (by simp)]
      have e1 : (c.toList.take a.off).length = a.off := by simp; omega
      simp only [e1]
      cases a with
      | mk b o s => simp only at hspot; subst hspot; rfl
    · intro k hk
      rw [hzl] at hk
      obtain ⟨u, h1, h2⟩ := hat k hk
      exact ⟨u, h2, hnum k u hk h1⟩
    · have e2 : E2.concs ρ (E2.mix ks zs) = (c.toList.drop a.off).take (len * n) := by
        rw [E2.concs_map]
        apply List.ext_getElem?
        intro k
        rw [List.getElem?_map, List.getElem?_take]
        by_cases hk : k < len * n
        · obtain ⟨u, h1, h2⟩ := hat k hk
          rw [E2.mix_get ks zs (by omega), if_pos hk, List.getElem?_drop, Array.getElem?_toList, h1, hnn]
          show some (E2.cellV zs _ k) = _
          rw [cellV_num h2 (hnum k u hk h1)]
        · rw [if_neg hk, List.getElem?_eq_none (by rw [E2.mix_len]; omega)]
          rfl
      rw [e2]
      have e3 : c.toList.take a.off ++ (c.toList.drop a.off).take (len * n) ++ c.toList.drop (a.off + len * n) = c.toList := by
        rw [List.append_assoc, ← List.drop_drop, List.take_append_drop, List.take_append_drop]
      show w.heap[a.block]? = some (.cells (c.toList.take a.off ++ (c.toList.drop a.off).take (len * n) ++ c.toList.drop (a.off + len * n)).toArray row fr)
      rw [e3]
      exact hblk
end
end Go.Proofs.Ytmelbcmfahcffaa.K
end
section
namespace Go.Proofs.Ytmelbcmfahcffaa.M
def btw (n l h : Int) : Bool := decide (l ≤ n) && decide (n ≤ h)
theorem btw_iff {n l h : Int} : btw n l h = true ↔ (l ≤ n ∧ n ≤ h) := by simp [btw]
def err (b : Bool) : Int := if b then 0 else 2
@[simp] theorem err_true : err true = 0 := rfl
@[simp] theorem err_false : err false = 2 := rfl
end Go.Proofs.Ytmelbcmfahcffaa.M
end
section
namespace Go.Proofs.Ytmelbcmfahcffaa.M
open Go.Proofs.Ytmelbcmfahcffaa.E2
def hoopB (x y g w : Int) : Bool := btw x 0 4194304 && btw y 0 4194304 && btw g 2 32768 && decide (g.tmod 2 = 0) && btw w 1 8192
def cellB (d x y : Int) : Bool := btw d 0 65536 && btw x (-4096) 4096 && btw y (-4096) 4096
def hoopZ (gs : List Int) (i : Nat) : Bool := hoopB (at' gs (i * 5)) (at' gs (i * 5 + 1)) (at' gs (i * 5 + 2)) (at' gs (i * 5 + 3))
def cellZ (cs : List Int) (i : Nat) : Bool := cellB (at' cs (i * 3)) (at' cs (i * 3 + 1)) (at' cs (i * 3 + 2))
theorem hoop_facts {x y g w : Int} (h : hoopB x y g w = true) : (0 ≤ x ∧ x ≤ 4194304) ∧ (0 ≤ y ∧ y ≤ 4194304) ∧ (2 ≤ g ∧ g ≤ 32768) ∧ (0 ≤ g.tdiv 2 ∧ g.tdiv 2 ≤ 16384) ∧ (1 ≤ w ∧ w ≤ 8192) := by
  simp only [hoopB, Bool.and_eq_true, btw_iff, decide_eq_true_eq] at h
  obtain ⟨⟨⟨⟨h1, h2⟩, h3⟩, h4⟩, h5⟩ := h
  have : g.tdiv 2 = g / 2 := Int.tdiv_eq_ediv_of_nonneg (by omega)
  rw [this]
  omega
def hoopD (gs : List Int) (i : Nat) : Int := (at' gs (i * 5 + 2)).tdiv 2 + at' gs (i * 5 + 3)
def wA (b : Bool) (x d : Int) : Int := if b then x else x - d
def wB (b : Bool) (x d : Int) : Int := if b then x else x + d
def postF (gs : List Int) (k : Nat) : Int :=
  if k % 6 = 0 then wA (nz gs (k / 6 * 5 + 4)) (at' gs (k / 6 * 5)) (hoopD gs (k / 6))
  else if k % 6 = 1 then wA (!nz gs (k / 6 * 5 + 4)) (at' gs (k / 6 * 5 + 1)) (hoopD gs (k / 6))
  else if k % 6 = 3 then wB (nz gs (k / 6 * 5 + 4)) (at' gs (k / 6 * 5)) (hoopD gs (k / 6))
  else if k % 6 = 4 then wB (!nz gs (k / 6 * 5 + 4)) (at' gs (k / 6 * 5 + 1)) (hoopD gs (k / 6))
  else at' gs (k / 6 * 5 + 3)
end Go.Proofs.Ytmelbcmfahcffaa.M
end
namespace Go.Proofs.Ytmelbcmfahcffaa
open Go Go.RowKit Go.Proofs.Ytmelbcmfahcffaa.E2
abbrev lwC (nm : ByteArray) (w g y : Int) (n : Nat) (a b r p q : Int) (k : Nat) : List V := [V.raw (Value.string nm), iV w, iV g, iV y, .slo 0 n, iV a, iV b, iV r, iV p, iV q, .slo 1 k]
abbrev lwA (nm : ByteArray) (w g y : Int) (n : Nat) (a b r p q : Int) (k : Nat) : V := .agg (lwC nm w g y n a b r p q k)
abbrev bkG (gs : List Int) (T : Nat) : Option Blk := some (.cells (mix [false, false, false, false, true] gs) T .ro)
class FlagTo (b q : Bool) (p : outParam Prop) : Prop where
  flg : p → b = q
instance flagTo1 (p : Prop) [Decidable p] : FlagTo (decide p) true p := ⟨decide_eq_true⟩
instance flagTo2 (p : Prop) [Decidable p] : FlagTo (decide p) false (¬ p) := ⟨decide_eq_false⟩
instance flagTo3 (p : Prop) [Decidable p] : FlagTo (!decide p) true (¬ p) := ⟨fun h => by rw [decide_eq_false h]; rfl⟩
instance flagTo4 (p : Prop) [Decidable p] : FlagTo (!decide p) false p := ⟨fun h => by rw [decide_eq_true h]; rfl⟩
theorem flg {b q : Bool} {p : Prop} [i : FlagTo b q p] (h : p) : b = q := i.flg h
abbrev bkI (cs : List Int) (U : Nat) : Option Blk := some (.cells (ints cs) U .ro)
theorem zdf {p : Prop} (h : p := by first | assumption | exact flg (by first | assumption | omega) | (simp_all; done)) : p := h
theorem zdo {p : Prop} (h : p := by first | omega | (simp; omega) | (simp_all; omega)) : p := h
theorem zds {p : Prop} (h : p := by first | assumption | omega | (simp_all; done) | (simp_all; omega)) : p := h
theorem zdr {p : Prop} (h : p := by repeat first | exact ents_nil | refine ents_none ?_ | refine ents_raw (ints_all _) rfl rfl ?_ | refine ents_raw (bools_all _) rfl rfl ?_ | refine ents_raw (mix_all _ _) rfl rfl ?_ | refine ents_say rfl rfl rfl rfl ?_ | refine ents_nilC rfl rfl ?_) : p := h
theorem zk {p : Prop} (h : p := by kernel_rfl) : p := h
theorem zo {p : Prop} (h : p := by omega) : p := h
theorem zb {a b : Nat} (h : Nat.ble a b = true := by rfl) : a ≤ b := Nat.le_of_ble_eq_true h
theorem zz {n : Nat} : 0 ≤ n := Nat.zero_le n
abbrev zF : Ans := .br false
abbrev zT : Ans := .br true
def anyR : Nat → Nat → List V → List V
  | _, 0, l => l
  | a, n + 1, l => .any a :: anyR (a + 1) n l
def repU : Nat → List V → List V
  | 0, l => l
  | n + 1, l => uV :: repU n l
abbrev catV (a b : List V) : List V := a ++ b
abbrev bkW (nm : ByteArray) (w g y : Int) (n : Nat) (a b r p q : Int) (k : Nat) : Option Blk := some (.cells (lwC nm w g y n a b r p q k) 29 .rw)
abbrev bkP (x z : Int) : Option Blk := some (.cells [iV x, iV z] 24 .rw)
theorem zt0 {p : Prop} (h : p := by exact fun RT RH => reshape2 (lim := 0) 2 cfx_G rfl [] (by kernel_rfl) (by kernel_rfl) (by exact (ents_raw (mix_all _ _) rfl rfl (ents_raw (ints_all _) rfl rfl (ents_nil)))) RT RH) : p := h
theorem zt1 {p : Prop} (h : p := by exact fun RT RH => reshape2 (lim := 0) 3 cfx_G rfl [] (by kernel_rfl) (by kernel_rfl) (by exact (ents_raw (mix_all _ _) rfl rfl (ents_raw (ints_all _) rfl rfl (ents_raw (ints_all _) rfl rfl (ents_nil))))) RT RH) : p := h
theorem zt2 {p : Prop} (h : p := by exact fun RT RH => reshape2 (lim := 0) 1 cfx_G rfl [] (by kernel_rfl) (by kernel_rfl) (by exact (ents_raw (ints_all _) rfl rfl (ents_nil))) RT RH) : p := h
theorem zt3 {p : Prop} (h : p := by exact fun RT RH => reshape2 (lim := 0) 4 cfx_G rfl [] (by kernel_rfl) (by kernel_rfl) (by exact (ents_raw (mix_all _ _) rfl rfl (ents_raw (ints_all _) rfl rfl (ents_say rfl rfl rfl rfl (ents_raw (ints_all _) rfl rfl (ents_nil)))))) RT RH) : p := h
theorem zt4 {p : Prop} (h : p := by exact fun RT RH => reshape2 (lim := 0) 3 cfx_G rfl [] (by kernel_rfl) (by kernel_rfl) (by exact (ents_raw (mix_all _ _) rfl rfl (ents_raw (ints_all _) rfl rfl (ents_say rfl rfl rfl rfl (ents_nil))))) RT RH) : p := h
theorem zt5 {p : Prop} (h : p := by exact fun RT RH => reshape2 (lim := 0) 1 cfx_G rfl [] (by kernel_rfl) (by kernel_rfl) (by exact (ents_raw (mix_all _ _) rfl rfl (ents_nil))) RT RH) : p := h
theorem zt6 {p : Prop} (h : p := by exact fun RT RH => reshape2 (lim := 0) 4 cfx_G rfl [] (by kernel_rfl) (by kernel_rfl) (by exact (ents_raw (mix_all _ _) rfl rfl (ents_raw (ints_all _) rfl rfl (ents_raw (ints_all _) rfl rfl (ents_say rfl rfl rfl rfl (ents_nil)))))) RT RH) : p := h
theorem zt7 {p : Prop} (h : p := by exact fun RT RH => reshape2 (lim := 0) 2 cfx_G rfl [] (by kernel_rfl) (by kernel_rfl) (by exact (ents_raw (ints_all _) rfl rfl (ents_say rfl rfl rfl rfl (ents_nil)))) RT RH) : p := h
theorem zt8 {p : Prop} (h : p := by exact fun RT RH => reshape2 (lim := 0) 17 cfx_G rfl [] (by kernel_rfl) (by kernel_rfl) (by exact (ents_raw (mix_all _ _) rfl rfl (ents_raw (ints_all _) rfl rfl (ents_raw (ints_all _) rfl rfl (ents_say rfl rfl rfl rfl (ents_say rfl rfl rfl rfl (ents_say rfl rfl rfl rfl (ents_say rfl rfl rfl rfl (ents_say rfl rfl rfl rfl (ents_say rfl rfl rfl rfl (ents_say rfl rfl rfl rfl (ents_say rfl rfl rfl rfl (ents_say rfl rfl rfl rfl (ents_say rfl rfl rfl rfl (ents_say rfl rfl rfl rfl (ents_say rfl rfl rfl rfl (ents_say rfl rfl rfl rfl (ents_say rfl rfl rfl rfl (ents_nil))))))))))))))))))) RT RH) : p := h
theorem zt9 {p : Prop} (h : p := by exact fun RT RH => reshape2 (lim := 0) 1 cfx_G rfl [] (by kernel_rfl) (by kernel_rfl) (by exact (ents_raw (mix_all _ _) rfl rfl (ents_nil))) RT RH) : p := h
theorem zt10 {p : Prop} (h : p := by exact fun RT RH => reshape2 (lim := 0) 5 cfx_G rfl [] (by kernel_rfl) (by kernel_rfl) (by exact (ents_raw (mix_all _ _) rfl rfl (ents_raw (ints_all _) rfl rfl (ents_say rfl rfl rfl rfl (ents_raw (ints_all _) rfl rfl (ents_say rfl rfl rfl rfl (ents_nil))))))) RT RH) : p := h
theorem zt11 {p : Prop} (h : p := by exact fun RT RH => reshape2 (lim := 0) 2 cfx_G rfl [] (by kernel_rfl) (by kernel_rfl) (by exact (ents_raw (ints_all _) rfl rfl (ents_raw (ints_all _) rfl rfl (ents_nil)))) RT RH) : p := h
theorem zt12 {p : Prop} (h : p := by exact fun RT RH => reshape2 (lim := 0) 3 cfx_G rfl [] (by kernel_rfl) (by kernel_rfl) (by exact (ents_raw (mix_all _ _) rfl rfl (ents_raw (ints_all _) rfl rfl (ents_say rfl rfl rfl rfl (ents_nil))))) RT RH) : p := h
theorem zt13 {p : Prop} (h : p := by exact fun RT RH => reshape2 (lim := 0) 2 cfx_G rfl [] (by kernel_rfl) (by kernel_rfl) (by exact (ents_raw (mix_all _ _) rfl rfl (ents_raw (ints_all _) rfl rfl (ents_nil)))) RT RH) : p := h
end Go.Proofs.Ytmelbcmfahcffaa
section
namespace Go.Proofs.Ytmelbcmfahcffaa
open Go Go.RowKit Go.Proofs.Ytmelbcmfahcffaa.E2
theorem lnBetween_1 (n l h : Int) (f0 : l ≤ n) : Ret cfx 69 [.raw (.int .i64 n), .raw (.int .i64 l), .raw (.int .i64 h)] (V.raw (.bool (decide (n ≤ h)))) := by
  exact fn_of cfx_mixed cfx_call cfx_base.1 cfx_base.2.1 cfx_base.2.2 (n := 40) (ans := [Ans.go, zT, zT]) (cons := [(decide (l ≤ n) = true), (true = true)]) zk rfl rfl
    ⟨zdf, rfl, trivial⟩
theorem lnBetween_2 (n l h : Int) (f0 : ¬l ≤ n) : Ret cfx 69 [.raw (.int .i64 n), .raw (.int .i64 l), .raw (.int .i64 h)] (V.raw (.bool false)) := by
  exact fn_of cfx_mixed cfx_call cfx_base.1 cfx_base.2.1 cfx_base.2.2 (n := 40) (ans := [Ans.go, zF, zF]) (cons := [(decide (l ≤ n) = false), (false = false)]) zk rfl rfl
    ⟨zdf, rfl, trivial⟩
theorem lnBetween (n l h : Int) : Ret cfx 69 [.raw (.int .i64 n), .raw (.int .i64 l), .raw (.int .i64 h)] (.raw (.bool (M.btw n l h))) := by
  by_cases f0 : l ≤ n
  ·
    have e : (.raw (.bool (M.btw n l h)) : V) = V.raw (.bool (decide (n ≤ h))) := by (simp_all [M.btw]; try omega)
    rw [e]
    exact lnBetween_1 n l h f0
  ·
    have e : (.raw (.bool (M.btw n l h)) : V) = V.raw (.bool false) := by (simp_all [M.btw]; try omega)
    rw [e]
    exact lnBetween_2 n l h f0
theorem lnWithin_1 (n l h : Int) (f0 : l ≤ n) : Ret cfx 70 [.raw (.int .i64 n), .raw (.int .i64 l), .raw (.int .i64 h)] (V.raw (.bool (decide (n ≤ h)))) := by
  exact fn_of cfx_mixed cfx_call cfx_base.1 cfx_base.2.1 cfx_base.2.2 (n := 40) (ans := [Ans.go, zT, zT]) (cons := [(decide (l ≤ n) = true), (true = true)]) zk rfl rfl
    ⟨zdf, rfl, trivial⟩
theorem lnWithin_2 (n l h : Int) (f0 : ¬l ≤ n) : Ret cfx 70 [.raw (.int .i64 n), .raw (.int .i64 l), .raw (.int .i64 h)] (V.raw (.bool false)) := by
  exact fn_of cfx_mixed cfx_call cfx_base.1 cfx_base.2.1 cfx_base.2.2 (n := 40) (ans := [Ans.go, zF, zF]) (cons := [(decide (l ≤ n) = false), (false = false)]) zk rfl rfl
    ⟨zdf, rfl, trivial⟩
theorem lnWithin (n l h : Int) : Ret cfx 70 [.raw (.int .i64 n), .raw (.int .i64 l), .raw (.int .i64 h)] (.raw (.bool (M.btw n l h))) := by
  by_cases f0 : l ≤ n
  ·
    have e : (.raw (.bool (M.btw n l h)) : V) = V.raw (.bool (decide (n ≤ h))) := by (simp_all [M.btw]; try omega)
    rw [e]
    exact lnWithin_1 n l h f0
  ·
    have e : (.raw (.bool (M.btw n l h)) : V) = V.raw (.bool false) := by (simp_all [M.btw]; try omega)
    rw [e]
    exact lnWithin_2 n l h f0
theorem lnIsSlope (n : Int)  : Ret cfx 110 [.raw (.int .i64 n)] (V.raw (.bool (M.btw n (-4096 : Int) 4096))) := by
  exact fn_of cfx_mixed cfx_call cfx_base.1 cfx_base.2.1 cfx_base.2.2 (n := 40) (ans := [Ans.go, Ans.ret (V.raw (.bool (M.btw n (-4096 : Int) 4096)))]) (cons := [(Ret cfx 69 [iV n, iV (-4096), iV 4096] (V.raw (.bool (M.btw n (-4096 : Int) 4096))))]) zk rfl rfl
    ⟨(lnBetween _ _ _), trivial⟩
theorem lnHoop_1 (x y g w : Int) (b : Bool) (f0 : M.btw x 0 4194304 = true) (f1 : M.btw y 0 4194304 = true) (f2 : M.btw g 2 32768 = true) (f3 : g.tmod (2 : Int) = (0 : Int)) : Ret cfx 88 [.raw (.agg #[.int .i64 x, .int .i64 y, .int .i64 g, .int .i64 w, .bool b])] (V.raw (.bool (M.btw w 1 8192))) := by
  exact fn_of cfx_mixed cfx_call cfx_base.1 cfx_base.2.1 cfx_base.2.2 (n := 40) (ans := [Ans.go, Ans.ret (V.raw (.bool (M.btw x 0 4194304))), zT, Ans.ret (V.raw (.bool (M.btw y 0 4194304))), zT, zT, Ans.ret (V.raw (.bool (M.btw g 2 32768))), zT, zT, zT, zT, Ans.ret (V.raw (.bool (M.btw w 1 8192))), zT]) (cons := [(Ret cfx 70 [iV x, iV 0, iV 4194304] (V.raw (.bool (M.btw x 0 4194304)))), (M.btw x 0 4194304 = true), (Ret cfx 70 [iV y, iV 0, iV 4194304] (V.raw (.bool (M.btw y 0 4194304)))), (true = true), (M.btw y 0 4194304 = true), (Ret cfx 70 [iV g, iV 2, iV 32768] (V.raw (.bool (M.btw g 2 32768)))), (true = true), (M.btw g 2 32768 = true), ((2 : Int) ≠ (0 : Int)), (true = true), (decide (g.tmod (2 : Int) = (0 : Int)) = true), (Ret cfx 70 [iV w, iV 1, iV 8192] (V.raw (.bool (M.btw w 1 8192)))), (true = true)]) zk rfl rfl
    ⟨(lnWithin _ _ _), zdf, (lnWithin _ _ _), rfl, zdf, (lnWithin _ _ _), rfl, zdf, zds, rfl, zdf, (lnWithin _ _ _), rfl, trivial⟩
theorem lnHoop_2 (x y g w : Int) (b : Bool) (f0 : M.btw x 0 4194304 = true) (f1 : M.btw y 0 4194304 = true) (f2 : M.btw g 2 32768 = true) (f3 : ¬g.tmod (2 : Int) = (0 : Int)) : Ret cfx 88 [.raw (.agg #[.int .i64 x, .int .i64 y, .int .i64 g, .int .i64 w, .bool b])] (V.raw (.bool false)) := by
  exact fn_of cfx_mixed cfx_call cfx_base.1 cfx_base.2.1 cfx_base.2.2 (n := 40) (ans := [Ans.go, Ans.ret (V.raw (.bool (M.btw x 0 4194304))), zT, Ans.ret (V.raw (.bool (M.btw y 0 4194304))), zT, zT, Ans.ret (V.raw (.bool (M.btw g 2 32768))), zT, zT, zT, zF, zF]) (cons := [(Ret cfx 70 [iV x, iV 0, iV 4194304] (V.raw (.bool (M.btw x 0 4194304)))), (M.btw x 0 4194304 = true), (Ret cfx 70 [iV y, iV 0, iV 4194304] (V.raw (.bool (M.btw y 0 4194304)))), (true = true), (M.btw y 0 4194304 = true), (Ret cfx 70 [iV g, iV 2, iV 32768] (V.raw (.bool (M.btw g 2 32768)))), (true = true), (M.btw g 2 32768 = true), ((2 : Int) ≠ (0 : Int)), (true = true), (decide (g.tmod (2 : Int) = (0 : Int)) = false), (false = false)]) zk rfl rfl
    ⟨(lnWithin _ _ _), zdf, (lnWithin _ _ _), rfl, zdf, (lnWithin _ _ _), rfl, zdf, zds, rfl, zdf, rfl, trivial⟩
theorem lnHoop_3 (x y g w : Int) (b : Bool) (f0 : M.btw x 0 4194304 = true) (f1 : M.btw y 0 4194304 = true) (f2 : M.btw g 2 32768 = false) : Ret cfx 88 [.raw (.agg #[.int .i64 x, .int .i64 y, .int .i64 g, .int .i64 w, .bool b])] (V.raw (.bool false)) := by
  exact fn_of cfx_mixed cfx_call cfx_base.1 cfx_base.2.1 cfx_base.2.2 (n := 40) (ans := [Ans.go, Ans.ret (V.raw (.bool (M.btw x 0 4194304))), zT, Ans.ret (V.raw (.bool (M.btw y 0 4194304))), zT, zT, Ans.ret (V.raw (.bool (M.btw g 2 32768))), zT, zF, zF, zF, zF]) (cons := [(Ret cfx 70 [iV x, iV 0, iV 4194304] (V.raw (.bool (M.btw x 0 4194304)))), (M.btw x 0 4194304 = true), (Ret cfx 70 [iV y, iV 0, iV 4194304] (V.raw (.bool (M.btw y 0 4194304)))), (true = true), (M.btw y 0 4194304 = true), (Ret cfx 70 [iV g, iV 2, iV 32768] (V.raw (.bool (M.btw g 2 32768)))), (true = true), (M.btw g 2 32768 = false), (false = false), (false = false), (false = false)]) zk rfl rfl
    ⟨(lnWithin _ _ _), zdf, (lnWithin _ _ _), rfl, zdf, (lnWithin _ _ _), rfl, zdf, rfl, rfl, rfl, trivial⟩
theorem lnHoop_4 (x y g w : Int) (b : Bool) (f0 : M.btw x 0 4194304 = true) (f1 : M.btw y 0 4194304 = false) : Ret cfx 88 [.raw (.agg #[.int .i64 x, .int .i64 y, .int .i64 g, .int .i64 w, .bool b])] (V.raw (.bool false)) := by
  exact fn_of cfx_mixed cfx_call cfx_base.1 cfx_base.2.1 cfx_base.2.2 (n := 40) (ans := [Ans.go, Ans.ret (V.raw (.bool (M.btw x 0 4194304))), zT, Ans.ret (V.raw (.bool (M.btw y 0 4194304))), zT, zF, zF, zF, zF, zF, zF]) (cons := [(Ret cfx 70 [iV x, iV 0, iV 4194304] (V.raw (.bool (M.btw x 0 4194304)))), (M.btw x 0 4194304 = true), (Ret cfx 70 [iV y, iV 0, iV 4194304] (V.raw (.bool (M.btw y 0 4194304)))), (true = true), (M.btw y 0 4194304 = false), (false = false), (false = false), (false = false), (false = false), (false = false)]) zk rfl rfl
    ⟨(lnWithin _ _ _), zdf, (lnWithin _ _ _), rfl, zdf, rfl, rfl, rfl, rfl, rfl, trivial⟩
theorem lnHoop_5 (x y g w : Int) (b : Bool) (f0 : M.btw x 0 4194304 = false) : Ret cfx 88 [.raw (.agg #[.int .i64 x, .int .i64 y, .int .i64 g, .int .i64 w, .bool b])] (V.raw (.bool false)) := by
  exact fn_of cfx_mixed cfx_call cfx_base.1 cfx_base.2.1 cfx_base.2.2 (n := 40) (ans := [Ans.go, Ans.ret (V.raw (.bool (M.btw x 0 4194304))), zF, zF, zF, zF, zF, zF, zF, zF]) (cons := [(Ret cfx 70 [iV x, iV 0, iV 4194304] (V.raw (.bool (M.btw x 0 4194304)))), (M.btw x 0 4194304 = false), (false = false), (false = false), (false = false), (false = false), (false = false), (false = false), (false = false)]) zk rfl rfl
    ⟨(lnWithin _ _ _), zdf, rfl, rfl, rfl, rfl, rfl, rfl, rfl, trivial⟩
theorem lnHoop (x y g w : Int) (b : Bool) : Ret cfx 88 [.raw (.agg #[.int .i64 x, .int .i64 y, .int .i64 g, .int .i64 w, .bool b])] (.raw (.bool (M.hoopB x y g w))) := by
  by_cases f0 : M.btw x 0 4194304 = true
  ·
    by_cases f1 : M.btw y 0 4194304 = true
    ·
      by_cases f2 : M.btw g 2 32768 = true
      ·
        by_cases f3 : g.tmod (2 : Int) = (0 : Int)
        ·
          have e : (.raw (.bool (M.hoopB x y g w)) : V) = V.raw (.bool (M.btw w 1 8192)) := by (simp_all [M.hoopB]; try omega)
          rw [e]
          exact lnHoop_1 x y g w b f0 f1 f2 f3
        ·
          have e : (.raw (.bool (M.hoopB x y g w)) : V) = V.raw (.bool false) := by (simp_all [M.hoopB]; try omega)
          rw [e]
          exact lnHoop_2 x y g w b f0 f1 f2 f3
      ·
        replace f2 : M.btw g 2 32768 = false := by simpa using f2
        have e : (.raw (.bool (M.hoopB x y g w)) : V) = V.raw (.bool false) := by (simp_all [M.hoopB]; try omega)
        rw [e]
        exact lnHoop_3 x y g w b f0 f1 f2
    ·
      replace f1 : M.btw y 0 4194304 = false := by simpa using f1
      have e : (.raw (.bool (M.hoopB x y g w)) : V) = V.raw (.bool false) := by (simp_all [M.hoopB]; try omega)
      rw [e]
      exact lnHoop_4 x y g w b f0 f1
  ·
    replace f0 : M.btw x 0 4194304 = false := by simpa using f0
    have e : (.raw (.bool (M.hoopB x y g w)) : V) = V.raw (.bool false) := by (simp_all [M.hoopB]; try omega)
    rw [e]
    exact lnHoop_5 x y g w b f0
theorem lnCell_1 (d x y : Int) (f0 : M.btw d 0 65536 = true) (f1 : M.btw x (-4096 : Int) 4096 = true) : Ret cfx 89 [.raw (.agg #[.int .i64 d, .int .i64 x, .int .i64 y])] (V.raw (.bool (M.btw y (-4096 : Int) 4096))) := by
  exact fn_of cfx_mixed cfx_call cfx_base.1 cfx_base.2.1 cfx_base.2.2 (n := 40) (ans := [Ans.go, Ans.ret (V.raw (.bool (M.btw d 0 65536))), zT, Ans.ret (V.raw (.bool (M.btw x (-4096 : Int) 4096))), zT, zT, Ans.ret (V.raw (.bool (M.btw y (-4096 : Int) 4096))), zT]) (cons := [(Ret cfx 70 [iV d, iV 0, iV 65536] (V.raw (.bool (M.btw d 0 65536)))), (M.btw d 0 65536 = true), (Ret cfx 70 [iV x, iV (-4096), iV 4096] (V.raw (.bool (M.btw x (-4096 : Int) 4096)))), (true = true), (M.btw x (-4096 : Int) 4096 = true), (Ret cfx 70 [iV y, iV (-4096), iV 4096] (V.raw (.bool (M.btw y (-4096 : Int) 4096)))), (true = true)]) zk rfl rfl
    ⟨(lnWithin _ _ _), zdf, (lnWithin _ _ _), rfl, zdf, (lnWithin _ _ _), rfl, trivial⟩
theorem lnCell_2 (d x y : Int) (f0 : M.btw d 0 65536 = true) (f1 : M.btw x (-4096 : Int) 4096 = false) : Ret cfx 89 [.raw (.agg #[.int .i64 d, .int .i64 x, .int .i64 y])] (V.raw (.bool false)) := by
  exact fn_of cfx_mixed cfx_call cfx_base.1 cfx_base.2.1 cfx_base.2.2 (n := 40) (ans := [Ans.go, Ans.ret (V.raw (.bool (M.btw d 0 65536))), zT, Ans.ret (V.raw (.bool (M.btw x (-4096 : Int) 4096))), zT, zF, zF]) (cons := [(Ret cfx 70 [iV d, iV 0, iV 65536] (V.raw (.bool (M.btw d 0 65536)))), (M.btw d 0 65536 = true), (Ret cfx 70 [iV x, iV (-4096), iV 4096] (V.raw (.bool (M.btw x (-4096 : Int) 4096)))), (true = true), (M.btw x (-4096 : Int) 4096 = false), (false = false)]) zk rfl rfl
    ⟨(lnWithin _ _ _), zdf, (lnWithin _ _ _), rfl, zdf, rfl, trivial⟩
theorem lnCell_3 (d x y : Int) (f0 : M.btw d 0 65536 = false) : Ret cfx 89 [.raw (.agg #[.int .i64 d, .int .i64 x, .int .i64 y])] (V.raw (.bool false)) := by
  exact fn_of cfx_mixed cfx_call cfx_base.1 cfx_base.2.1 cfx_base.2.2 (n := 40) (ans := [Ans.go, Ans.ret (V.raw (.bool (M.btw d 0 65536))), zF, zF, zF, zF]) (cons := [(Ret cfx 70 [iV d, iV 0, iV 65536] (V.raw (.bool (M.btw d 0 65536)))), (M.btw d 0 65536 = false), (false = false), (false = false), (false = false)]) zk rfl rfl
    ⟨(lnWithin _ _ _), zdf, rfl, rfl, rfl, trivial⟩
theorem lnCell (d x y : Int) : Ret cfx 89 [.raw (.agg #[.int .i64 d, .int .i64 x, .int .i64 y])] (.raw (.bool (M.cellB d x y))) := by
  by_cases f0 : M.btw d 0 65536 = true
  ·
    by_cases f1 : M.btw x (-4096 : Int) 4096 = true
    ·
      have e : (.raw (.bool (M.cellB d x y)) : V) = V.raw (.bool (M.btw y (-4096 : Int) 4096)) := by (simp_all [M.cellB]; try omega)
      rw [e]
      exact lnCell_1 d x y f0 f1
    ·
      replace f1 : M.btw x (-4096 : Int) 4096 = false := by simpa using f1
      have e : (.raw (.bool (M.cellB d x y)) : V) = V.raw (.bool false) := by (simp_all [M.cellB]; try omega)
      rw [e]
      exact lnCell_2 d x y f0 f1
  ·
    replace f0 : M.btw d 0 65536 = false := by simpa using f0
    have e : (.raw (.bool (M.cellB d x y)) : V) = V.raw (.bool false) := by (simp_all [M.cellB]; try omega)
    rw [e]
    exact lnCell_3 d x y f0
end Go.Proofs.Ytmelbcmfahcffaa
end
section
namespace Go.Proofs.Ytmelbcmfahcffaa
open Go Go.RowKit Go.Proofs.Ytmelbcmfahcffaa.E2
abbrev zq110 (n : Nat) (i : Int) : List V := (catV [.slo 0 n, uV, V.raw (.bool false), uV, .any 4, .slo 0 n, iV (n : Int), iV i] (anyR 8 32 []))
def hf_T (gs : List Int) (n : Nat) (T : Nat) (i : Int) : List V := (zq110 n i)
def hf_H (gs : List Int) (n : Nat) (T : Nat) (i : Int) : Heap := [bkG gs T]
def hf_T1 (gs : List Int) (n : Nat) (T : Nat) (i : Int) : List V := (zq110 n i)
def hf_H1 (gs : List Int) (n : Nat) (T : Nat) (i : Int) : Heap := [bkG gs T]
abbrev zq183 (gs : List Int) (T : Nat) (i : Int) : Heap := [bkG gs T, some (.cells [iV (at' gs (i.toNat * 5)), iV (at' gs (i.toNat * 5 + 1)), iV (at' gs (i.toNat * 5 + 2)), iV (at' gs (i.toNat * 5 + 3)), V.raw (.bool (nz gs (i.toNat * 5 + 4)))] 71 .rw)]
abbrev zq212 (gs : List Int) (i : Int) : Prop := Ret cfx 69 [iV (at' gs (i.toNat * 5)), iV 0, iV 4194304] (V.raw (.bool (M.btw (at' gs (i.toNat * 5)) 0 4194304)))
theorem hf_1 (gs : List Int) (n : Nat) (T : Nat) (hz : n * 5 ≤ gs.length) (hn : n ≤ 20) (i : Int) (hi1 : 0 ≤ i) (f0 : i < (n : Int)) (f1 : M.btw (at' gs (i.toNat * 5)) 0 4194304 = false) : Runs cfx 0 1 none (loopOf cfx.P 94 0) (hf_T gs n T i) (hf_H gs n T i) (Ex.ret) (hf_T1 gs n T i) (hf_H1 gs n T i) := by
  refine Runs.post (t1 := [.slo 0 n, uV, V.raw (.bool false), uV, .ptr 1 0, .slo 0 n, iV (n : Int), iV i, V.raw (.bool (decide (i < (n : Int)))), V.ptr 0 (i.toNat * 5), V.raw (.agg { toList := [.int .i64 (at' gs (i.toNat * 5)), .int .i64 (at' gs (i.toNat * 5 + 1)), .int .i64 (at' gs (i.toNat * 5 + 2)), .int .i64 (at' gs (i.toNat * 5 + 3)), .bool (nz gs (i.toNat * 5 + 4))] }), .ptr 1 0, iV (at' gs (i.toNat * 5)), V.raw (.bool (M.btw (at' gs (i.toNat * 5)) 0 4194304)), V.raw (.bool !M.btw (at' gs (i.toNat * 5)) 0 4194304), V.lit true, uV, uV, uV, uV, V.raw (.bool true), V.lit true, uV, uV, uV, uV, V.raw (.bool true), V.lit true, uV, uV, uV, uV, V.raw (.bool true), V.lit true, uV, uV, uV, uV, V.raw (.bool true), .any 39]) (h1 := (zq183 gs T i)) (body_of cfx_mixed cfx_call zz (rnd := none) (fi := 0) (k := 0) (n := 40) (n0 := 1) (ans := [zT, Ans.val 0 (V.raw (.agg { toList := [.int .i64 (at' gs (i.toNat * 5)), .int .i64 (at' gs (i.toNat * 5 + 1)), .int .i64 (at' gs (i.toNat * 5 + 2)), .int .i64 (at' gs (i.toNat * 5 + 3)), .bool (nz gs (i.toNat * 5 + 4))] })), Ans.ret (V.raw (.bool (M.btw (at' gs (i.toNat * 5)) 0 4194304))), zT, zT, zT, zT, zT, zT, zT, zT, zT]) (cons := [(decide (i < (n : Int)) = true), (0 ≤ i ∧ i < (n : Int)), (loadRow cfx 71 (mix [false, false, false, false, true] gs) (i.toNat * 5) = some (V.raw (.agg { toList := [.int .i64 (at' gs (i.toNat * 5)), .int .i64 (at' gs (i.toNat * 5 + 1)), .int .i64 (at' gs (i.toNat * 5 + 2)), .int .i64 (at' gs (i.toNat * 5 + 3)), .bool (nz gs (i.toNat * 5 + 4))] }))), ((zq212 gs i)), ((!M.btw (at' gs (i.toNat * 5)) 0 4194304) = true), (true = true), (true = true), (true = true), (true = true), (true = true), (true = true), (true = true), (true = true)]) zk
    ⟨zdo, (by omega), (load_mix 5 0 (by kernel_rfl) (by kernel_rfl) (Nat.le_of_ble_eq_true rfl) (by show _ % 5 = 0; omega) (Nat.le_of_ble_eq_true rfl) (by omega)), (lnBetween _ _ _), zdf, rfl, rfl, rfl, rfl, rfl, rfl, rfl, rfl, trivial⟩ (Nat.le_of_ble_eq_true rfl) (Nat.le_of_ble_eq_true rfl) noRnd (noRanges (by kernel_rfl))) zt5
def hf_T2 (gs : List Int) (n : Nat) (T : Nat) (i : Int) : List V := (zq110 n i)
def hf_H2 (gs : List Int) (n : Nat) (T : Nat) (i : Int) : Heap := [bkG gs T]
abbrev zq206 (gs : List Int) (i : Int) : Prop := Ret cfx 69 [iV (at' gs (i.toNat * 5 + 1)), iV 0, iV 4194304] (V.raw (.bool (M.btw (at' gs (i.toNat * 5 + 1)) 0 4194304)))
theorem hf_2 (gs : List Int) (n : Nat) (T : Nat) (hz : n * 5 ≤ gs.length) (hn : n ≤ 20) (i : Int) (hi1 : 0 ≤ i) (f0 : i < (n : Int)) (f1 : M.btw (at' gs (i.toNat * 5)) 0 4194304 = true) (f2 : M.btw (at' gs (i.toNat * 5 + 1)) 0 4194304 = false) : Runs cfx 0 1 none (loopOf cfx.P 94 0) (hf_T gs n T i) (hf_H gs n T i) (Ex.ret) (hf_T2 gs n T i) (hf_H2 gs n T i) := by
  refine Runs.post (t1 := [.slo 0 n, uV, V.raw (.bool false), uV, .ptr 1 0, .slo 0 n, iV (n : Int), iV i, V.raw (.bool (decide (i < (n : Int)))), V.ptr 0 (i.toNat * 5), V.raw (.agg { toList := [.int .i64 (at' gs (i.toNat * 5)), .int .i64 (at' gs (i.toNat * 5 + 1)), .int .i64 (at' gs (i.toNat * 5 + 2)), .int .i64 (at' gs (i.toNat * 5 + 3)), .bool (nz gs (i.toNat * 5 + 4))] }), .ptr 1 0, iV (at' gs (i.toNat * 5)), V.raw (.bool (M.btw (at' gs (i.toNat * 5)) 0 4194304)), V.raw (.bool !M.btw (at' gs (i.toNat * 5)) 0 4194304), V.lit false, .ptr 1 1, iV (at' gs (i.toNat * 5 + 1)), V.raw (.bool (M.btw (at' gs (i.toNat * 5 + 1)) 0 4194304)), V.raw (.bool !M.btw (at' gs (i.toNat * 5 + 1)) 0 4194304), V.raw (.bool !M.btw (at' gs (i.toNat * 5 + 1)) 0 4194304), V.lit true, uV, uV, uV, uV, V.raw (.bool true), V.lit true, uV, uV, uV, uV, V.raw (.bool true), V.lit true, uV, uV, uV, uV, V.raw (.bool true), .any 39]) (h1 := (zq183 gs T i)) (body_of cfx_mixed cfx_call zz (rnd := none) (fi := 0) (k := 0) (n := 40) (n0 := 1) (ans := [zT, Ans.val 0 (V.raw (.agg { toList := [.int .i64 (at' gs (i.toNat * 5)), .int .i64 (at' gs (i.toNat * 5 + 1)), .int .i64 (at' gs (i.toNat * 5 + 2)), .int .i64 (at' gs (i.toNat * 5 + 3)), .bool (nz gs (i.toNat * 5 + 4))] })), Ans.ret (V.raw (.bool (M.btw (at' gs (i.toNat * 5)) 0 4194304))), zF, Ans.ret (V.raw (.bool (M.btw (at' gs (i.toNat * 5 + 1)) 0 4194304))), zF, zT, zT, zT, zT, zT, zT, zT]) (cons := [(decide (i < (n : Int)) = true), (0 ≤ i ∧ i < (n : Int)), (loadRow cfx 71 (mix [false, false, false, false, true] gs) (i.toNat * 5) = some (V.raw (.agg { toList := [.int .i64 (at' gs (i.toNat * 5)), .int .i64 (at' gs (i.toNat * 5 + 1)), .int .i64 (at' gs (i.toNat * 5 + 2)), .int .i64 (at' gs (i.toNat * 5 + 3)), .bool (nz gs (i.toNat * 5 + 4))] }))), ((zq212 gs i)), ((!M.btw (at' gs (i.toNat * 5)) 0 4194304) = false), ((zq206 gs i)), (false = false), ((!M.btw (at' gs (i.toNat * 5 + 1)) 0 4194304) = true), (true = true), (true = true), (true = true), (true = true), (true = true), (true = true)]) zk
    ⟨zdo, (by omega), (load_mix 5 0 (by kernel_rfl) (by kernel_rfl) (Nat.le_of_ble_eq_true rfl) (by show _ % 5 = 0; omega) (Nat.le_of_ble_eq_true rfl) (by omega)), (lnBetween _ _ _), zdf, (lnBetween _ _ _), rfl, zdf, rfl, rfl, rfl, rfl, rfl, rfl, trivial⟩ (Nat.le_of_ble_eq_true rfl) (Nat.le_of_ble_eq_true rfl) noRnd (noRanges (by kernel_rfl))) zt5
def hf_T3 (gs : List Int) (n : Nat) (T : Nat) (i : Int) : List V := (zq110 n i)
def hf_H3 (gs : List Int) (n : Nat) (T : Nat) (i : Int) : Heap := [bkG gs T]
abbrev zq208 (gs : List Int) (i : Int) : Prop := Ret cfx 69 [iV (at' gs (i.toNat * 5 + 2)), iV 2, iV 32768] (V.raw (.bool (M.btw (at' gs (i.toNat * 5 + 2)) 2 32768)))
theorem hf_3 (gs : List Int) (n : Nat) (T : Nat) (hz : n * 5 ≤ gs.length) (hn : n ≤ 20) (i : Int) (hi1 : 0 ≤ i) (f0 : i < (n : Int)) (f1 : M.btw (at' gs (i.toNat * 5)) 0 4194304 = true) (f2 : M.btw (at' gs (i.toNat * 5 + 1)) 0 4194304 = true) (f3 : M.btw (at' gs (i.toNat * 5 + 2)) 2 32768 = false) : Runs cfx 0 1 none (loopOf cfx.P 94 0) (hf_T gs n T i) (hf_H gs n T i) (Ex.ret) (hf_T3 gs n T i) (hf_H3 gs n T i) := by
  refine Runs.post (t1 := [.slo 0 n, uV, V.raw (.bool false), uV, .ptr 1 0, .slo 0 n, iV (n : Int), iV i, V.raw (.bool (decide (i < (n : Int)))), V.ptr 0 (i.toNat * 5), V.raw (.agg { toList := [.int .i64 (at' gs (i.toNat * 5)), .int .i64 (at' gs (i.toNat * 5 + 1)), .int .i64 (at' gs (i.toNat * 5 + 2)), .int .i64 (at' gs (i.toNat * 5 + 3)), .bool (nz gs (i.toNat * 5 + 4))] }), .ptr 1 0, iV (at' gs (i.toNat * 5)), V.raw (.bool (M.btw (at' gs (i.toNat * 5)) 0 4194304)), V.raw (.bool !M.btw (at' gs (i.toNat * 5)) 0 4194304), V.lit false, .ptr 1 1, iV (at' gs (i.toNat * 5 + 1)), V.raw (.bool (M.btw (at' gs (i.toNat * 5 + 1)) 0 4194304)), V.raw (.bool !M.btw (at' gs (i.toNat * 5 + 1)) 0 4194304), V.raw (.bool !M.btw (at' gs (i.toNat * 5 + 1)) 0 4194304), V.lit false, .ptr 1 2, iV (at' gs (i.toNat * 5 + 2)), V.raw (.bool (M.btw (at' gs (i.toNat * 5 + 2)) 2 32768)), V.raw (.bool !M.btw (at' gs (i.toNat * 5 + 2)) 2 32768), V.raw (.bool !M.btw (at' gs (i.toNat * 5 + 2)) 2 32768), V.lit true, uV, uV, uV, uV, V.raw (.bool true), V.lit true, uV, uV, uV, uV, V.raw (.bool true), .any 39]) (h1 := (zq183 gs T i)) (body_of cfx_mixed cfx_call zz (rnd := none) (fi := 0) (k := 0) (n := 40) (n0 := 1) (ans := [zT, Ans.val 0 (V.raw (.agg { toList := [.int .i64 (at' gs (i.toNat * 5)), .int .i64 (at' gs (i.toNat * 5 + 1)), .int .i64 (at' gs (i.toNat * 5 + 2)), .int .i64 (at' gs (i.toNat * 5 + 3)), .bool (nz gs (i.toNat * 5 + 4))] })), Ans.ret (V.raw (.bool (M.btw (at' gs (i.toNat * 5)) 0 4194304))), zF, Ans.ret (V.raw (.bool (M.btw (at' gs (i.toNat * 5 + 1)) 0 4194304))), zF, zF, Ans.ret (V.raw (.bool (M.btw (at' gs (i.toNat * 5 + 2)) 2 32768))), zF, zT, zT, zT, zT, zT]) (cons := [(decide (i < (n : Int)) = true), (0 ≤ i ∧ i < (n : Int)), (loadRow cfx 71 (mix [false, false, false, false, true] gs) (i.toNat * 5) = some (V.raw (.agg { toList := [.int .i64 (at' gs (i.toNat * 5)), .int .i64 (at' gs (i.toNat * 5 + 1)), .int .i64 (at' gs (i.toNat * 5 + 2)), .int .i64 (at' gs (i.toNat * 5 + 3)), .bool (nz gs (i.toNat * 5 + 4))] }))), ((zq212 gs i)), ((!M.btw (at' gs (i.toNat * 5)) 0 4194304) = false), ((zq206 gs i)), (false = false), ((!M.btw (at' gs (i.toNat * 5 + 1)) 0 4194304) = false), ((zq208 gs i)), (false = false), ((!M.btw (at' gs (i.toNat * 5 + 2)) 2 32768) = true), (true = true), (true = true), (true = true), (true = true)]) zk
    ⟨zdo, (by omega), (load_mix 5 0 (by kernel_rfl) (by kernel_rfl) (Nat.le_of_ble_eq_true rfl) (by show _ % 5 = 0; omega) (Nat.le_of_ble_eq_true rfl) (by omega)), (lnBetween _ _ _), zdf, (lnBetween _ _ _), rfl, zdf, (lnBetween _ _ _), rfl, zdf, rfl, rfl, rfl, rfl, trivial⟩ (Nat.le_of_ble_eq_true rfl) (Nat.le_of_ble_eq_true rfl) noRnd (noRanges (by kernel_rfl))) zt5
def hf_T4 (gs : List Int) (n : Nat) (T : Nat) (i : Int) : List V := (zq110 n i)
def hf_H4 (gs : List Int) (n : Nat) (T : Nat) (i : Int) : Heap := [bkG gs T]
theorem hf_4 (gs : List Int) (n : Nat) (T : Nat) (hz : n * 5 ≤ gs.length) (hn : n ≤ 20) (i : Int) (hi1 : 0 ≤ i) (f0 : i < (n : Int)) (f1 : M.btw (at' gs (i.toNat * 5)) 0 4194304 = true) (f2 : M.btw (at' gs (i.toNat * 5 + 1)) 0 4194304 = true) (f3 : M.btw (at' gs (i.toNat * 5 + 2)) 2 32768 = true) (f4 : ¬(at' gs (i.toNat * 5 + 2)).tmod (2 : Int) = (0 : Int)) : Runs cfx 0 1 none (loopOf cfx.P 94 0) (hf_T gs n T i) (hf_H gs n T i) (Ex.ret) (hf_T4 gs n T i) (hf_H4 gs n T i) := by
  refine Runs.post (t1 := [.slo 0 n, uV, V.raw (.bool false), uV, .ptr 1 0, .slo 0 n, iV (n : Int), iV i, V.raw (.bool (decide (i < (n : Int)))), V.ptr 0 (i.toNat * 5), V.raw (.agg { toList := [.int .i64 (at' gs (i.toNat * 5)), .int .i64 (at' gs (i.toNat * 5 + 1)), .int .i64 (at' gs (i.toNat * 5 + 2)), .int .i64 (at' gs (i.toNat * 5 + 3)), .bool (nz gs (i.toNat * 5 + 4))] }), .ptr 1 0, iV (at' gs (i.toNat * 5)), V.raw (.bool (M.btw (at' gs (i.toNat * 5)) 0 4194304)), V.raw (.bool !M.btw (at' gs (i.toNat * 5)) 0 4194304), V.lit false, .ptr 1 1, iV (at' gs (i.toNat * 5 + 1)), V.raw (.bool (M.btw (at' gs (i.toNat * 5 + 1)) 0 4194304)), V.raw (.bool !M.btw (at' gs (i.toNat * 5 + 1)) 0 4194304), V.raw (.bool !M.btw (at' gs (i.toNat * 5 + 1)) 0 4194304), V.lit false, .ptr 1 2, iV (at' gs (i.toNat * 5 + 2)), V.raw (.bool (M.btw (at' gs (i.toNat * 5 + 2)) 2 32768)), V.raw (.bool !M.btw (at' gs (i.toNat * 5 + 2)) 2 32768), V.raw (.bool !M.btw (at' gs (i.toNat * 5 + 2)) 2 32768), V.lit false, .ptr 1 2, iV (at' gs (i.toNat * 5 + 2)), iV ((at' gs (i.toNat * 5 + 2)).tmod 2), V.raw (.bool !decide ((at' gs (i.toNat * 5 + 2)).tmod (2 : Int) = (0 : Int))), V.raw (.bool !decide ((at' gs (i.toNat * 5 + 2)).tmod (2 : Int) = (0 : Int))), V.lit true, uV, uV, uV, uV, V.raw (.bool true), .any 39]) (h1 := (zq183 gs T i)) (body_of cfx_mixed cfx_call zz (rnd := none) (fi := 0) (k := 0) (n := 40) (n0 := 1) (ans := [zT, Ans.val 0 (V.raw (.agg { toList := [.int .i64 (at' gs (i.toNat * 5)), .int .i64 (at' gs (i.toNat * 5 + 1)), .int .i64 (at' gs (i.toNat * 5 + 2)), .int .i64 (at' gs (i.toNat * 5 + 3)), .bool (nz gs (i.toNat * 5 + 4))] })), Ans.ret (V.raw (.bool (M.btw (at' gs (i.toNat * 5)) 0 4194304))), zF, Ans.ret (V.raw (.bool (M.btw (at' gs (i.toNat * 5 + 1)) 0 4194304))), zF, zF, Ans.ret (V.raw (.bool (M.btw (at' gs (i.toNat * 5 + 2)) 2 32768))), zF, zF, zF, zT, zT, zT]) (cons := [(decide (i < (n : Int)) = true), (0 ≤ i ∧ i < (n : Int)), (loadRow cfx 71 (mix [false, false, false, false, true] gs) (i.toNat * 5) = some (V.raw (.agg { toList := [.int .i64 (at' gs (i.toNat * 5)), .int .i64 (at' gs (i.toNat * 5 + 1)), .int .i64 (at' gs (i.toNat * 5 + 2)), .int .i64 (at' gs (i.toNat * 5 + 3)), .bool (nz gs (i.toNat * 5 + 4))] }))), ((zq212 gs i)), ((!M.btw (at' gs (i.toNat * 5)) 0 4194304) = false), ((zq206 gs i)), (false = false), ((!M.btw (at' gs (i.toNat * 5 + 1)) 0 4194304) = false), ((zq208 gs i)), (false = false), ((!M.btw (at' gs (i.toNat * 5 + 2)) 2 32768) = false), ((2 : Int) ≠ (0 : Int)), (false = false), ((!decide ((at' gs (i.toNat * 5 + 2)).tmod (2 : Int) = (0 : Int))) = true), (true = true), (true = true)]) zk
    ⟨zdo, (by omega), (load_mix 5 0 (by kernel_rfl) (by kernel_rfl) (Nat.le_of_ble_eq_true rfl) (by show _ % 5 = 0; omega) (Nat.le_of_ble_eq_true rfl) (by omega)), (lnBetween _ _ _), zdf, (lnBetween _ _ _), rfl, zdf, (lnBetween _ _ _), rfl, zdf, zds, rfl, zdf, rfl, rfl, trivial⟩ (Nat.le_of_ble_eq_true rfl) (Nat.le_of_ble_eq_true rfl) noRnd (noRanges (by kernel_rfl))) zt5
def hf_T5 (gs : List Int) (n : Nat) (T : Nat) (i : Int) : List V := (zq110 n i)
def hf_H5 (gs : List Int) (n : Nat) (T : Nat) (i : Int) : Heap := [bkG gs T]
theorem hf_5 (gs : List Int) (n : Nat) (T : Nat) (hz : n * 5 ≤ gs.length) (hn : n ≤ 20) (i : Int) (hi1 : 0 ≤ i) (f0 : i < (n : Int)) (f1 : M.btw (at' gs (i.toNat * 5)) 0 4194304 = true) (f2 : M.btw (at' gs (i.toNat * 5 + 1)) 0 4194304 = true) (f3 : M.btw (at' gs (i.toNat * 5 + 2)) 2 32768 = true) (f4 : (at' gs (i.toNat * 5 + 2)).tmod (2 : Int) = (0 : Int)) (f5 : M.btw (at' gs (i.toNat * 5 + 3)) 1 8192 = false) : Runs cfx 0 1 none (loopOf cfx.P 94 0) (hf_T gs n T i) (hf_H gs n T i) (Ex.ret) (hf_T5 gs n T i) (hf_H5 gs n T i) := by
  refine Runs.post (t1 := [.slo 0 n, uV, V.raw (.bool false), uV, .ptr 1 0, .slo 0 n, iV (n : Int), iV i, V.raw (.bool (decide (i < (n : Int)))), V.ptr 0 (i.toNat * 5), V.raw (.agg { toList := [.int .i64 (at' gs (i.toNat * 5)), .int .i64 (at' gs (i.toNat * 5 + 1)), .int .i64 (at' gs (i.toNat * 5 + 2)), .int .i64 (at' gs (i.toNat * 5 + 3)), .bool (nz gs (i.toNat * 5 + 4))] }), .ptr 1 0, iV (at' gs (i.toNat * 5)), V.raw (.bool (M.btw (at' gs (i.toNat * 5)) 0 4194304)), V.raw (.bool !M.btw (at' gs (i.toNat * 5)) 0 4194304), V.lit false, .ptr 1 1, iV (at' gs (i.toNat * 5 + 1)), V.raw (.bool (M.btw (at' gs (i.toNat * 5 + 1)) 0 4194304)), V.raw (.bool !M.btw (at' gs (i.toNat * 5 + 1)) 0 4194304), V.raw (.bool !M.btw (at' gs (i.toNat * 5 + 1)) 0 4194304), V.lit false, .ptr 1 2, iV (at' gs (i.toNat * 5 + 2)), V.raw (.bool (M.btw (at' gs (i.toNat * 5 + 2)) 2 32768)), V.raw (.bool !M.btw (at' gs (i.toNat * 5 + 2)) 2 32768), V.raw (.bool !M.btw (at' gs (i.toNat * 5 + 2)) 2 32768), V.lit false, .ptr 1 2, iV (at' gs (i.toNat * 5 + 2)), iV ((at' gs (i.toNat * 5 + 2)).tmod 2), V.raw (.bool !decide ((at' gs (i.toNat * 5 + 2)).tmod (2 : Int) = (0 : Int))), V.raw (.bool !decide ((at' gs (i.toNat * 5 + 2)).tmod (2 : Int) = (0 : Int))), V.lit false, .ptr 1 3, iV (at' gs (i.toNat * 5 + 3)), V.raw (.bool (M.btw (at' gs (i.toNat * 5 + 3)) 1 8192)), V.raw (.bool !M.btw (at' gs (i.toNat * 5 + 3)) 1 8192), V.raw (.bool !M.btw (at' gs (i.toNat * 5 + 3)) 1 8192), .any 39]) (h1 := (zq183 gs T i)) (body_of cfx_mixed cfx_call zz (rnd := none) (fi := 0) (k := 0) (n := 40) (n0 := 1) (ans := [zT, Ans.val 0 (V.raw (.agg { toList := [.int .i64 (at' gs (i.toNat * 5)), .int .i64 (at' gs (i.toNat * 5 + 1)), .int .i64 (at' gs (i.toNat * 5 + 2)), .int .i64 (at' gs (i.toNat * 5 + 3)), .bool (nz gs (i.toNat * 5 + 4))] })), Ans.ret (V.raw (.bool (M.btw (at' gs (i.toNat * 5)) 0 4194304))), zF, Ans.ret (V.raw (.bool (M.btw (at' gs (i.toNat * 5 + 1)) 0 4194304))), zF, zF, Ans.ret (V.raw (.bool (M.btw (at' gs (i.toNat * 5 + 2)) 2 32768))), zF, zF, zF, zF, Ans.ret (V.raw (.bool (M.btw (at' gs (i.toNat * 5 + 3)) 1 8192))), zF, zT]) (cons := [(decide (i < (n : Int)) = true), (0 ≤ i ∧ i < (n : Int)), (loadRow cfx 71 (mix [false, false, false, false, true] gs) (i.toNat * 5) = some (V.raw (.agg { toList := [.int .i64 (at' gs (i.toNat * 5)), .int .i64 (at' gs (i.toNat * 5 + 1)), .int .i64 (at' gs (i.toNat * 5 + 2)), .int .i64 (at' gs (i.toNat * 5 + 3)), .bool (nz gs (i.toNat * 5 + 4))] }))), ((zq212 gs i)), ((!M.btw (at' gs (i.toNat * 5)) 0 4194304) = false), ((zq206 gs i)), (false = false), ((!M.btw (at' gs (i.toNat * 5 + 1)) 0 4194304) = false), ((zq208 gs i)), (false = false), ((!M.btw (at' gs (i.toNat * 5 + 2)) 2 32768) = false), ((2 : Int) ≠ (0 : Int)), (false = false), ((!decide ((at' gs (i.toNat * 5 + 2)).tmod (2 : Int) = (0 : Int))) = false), (Ret cfx 69 [iV (at' gs (i.toNat * 5 + 3)), iV 1, iV 8192] (V.raw (.bool (M.btw (at' gs (i.toNat * 5 + 3)) 1 8192)))), (false = false), ((!M.btw (at' gs (i.toNat * 5 + 3)) 1 8192) = true)]) zk
    ⟨zdo, (by omega), (load_mix 5 0 (by kernel_rfl) (by kernel_rfl) (Nat.le_of_ble_eq_true rfl) (by show _ % 5 = 0; omega) (Nat.le_of_ble_eq_true rfl) (by omega)), (lnBetween _ _ _), zdf, (lnBetween _ _ _), rfl, zdf, (lnBetween _ _ _), rfl, zdf, zds, rfl, zdf, (lnBetween _ _ _), rfl, zdf, trivial⟩ (Nat.le_of_ble_eq_true rfl) (Nat.le_of_ble_eq_true rfl) noRnd (noRanges (by kernel_rfl))) zt5
theorem hf_6 (gs : List Int) (n : Nat) (T : Nat) (hz : n * 5 ≤ gs.length) (hn : n ≤ 20) (i : Int) (hi1 : 0 ≤ i) (f0 : i < (n : Int)) (f1 : M.btw (at' gs (i.toNat * 5)) 0 4194304 = true) (f2 : M.btw (at' gs (i.toNat * 5 + 1)) 0 4194304 = true) (f3 : M.btw (at' gs (i.toNat * 5 + 2)) 2 32768 = true) (f4 : (at' gs (i.toNat * 5 + 2)).tmod (2 : Int) = (0 : Int)) (f5 : M.btw (at' gs (i.toNat * 5 + 3)) 1 8192 = true) : Runs cfx 0 1 none (loopOf cfx.P 94 0) (hf_T gs n T i) (hf_H gs n T i) (Ex.normal) (hf_T gs n T (i + 1)) (hf_H gs n T (i + 1)) := by
  refine Runs.post (t1 := [.slo 0 n, uV, V.raw (.bool false), uV, .ptr 1 0, .slo 0 n, iV (n : Int), iV (i + 1), V.raw (.bool (decide (i < (n : Int)))), V.ptr 0 (i.toNat * 5), V.raw (.agg { toList := [.int .i64 (at' gs (i.toNat * 5)), .int .i64 (at' gs (i.toNat * 5 + 1)), .int .i64 (at' gs (i.toNat * 5 + 2)), .int .i64 (at' gs (i.toNat * 5 + 3)), .bool (nz gs (i.toNat * 5 + 4))] }), .ptr 1 0, iV (at' gs (i.toNat * 5)), V.raw (.bool (M.btw (at' gs (i.toNat * 5)) 0 4194304)), V.raw (.bool !M.btw (at' gs (i.toNat * 5)) 0 4194304), V.lit false, .ptr 1 1, iV (at' gs (i.toNat * 5 + 1)), V.raw (.bool (M.btw (at' gs (i.toNat * 5 + 1)) 0 4194304)), V.raw (.bool !M.btw (at' gs (i.toNat * 5 + 1)) 0 4194304), V.raw (.bool !M.btw (at' gs (i.toNat * 5 + 1)) 0 4194304), V.lit false, .ptr 1 2, iV (at' gs (i.toNat * 5 + 2)), V.raw (.bool (M.btw (at' gs (i.toNat * 5 + 2)) 2 32768)), V.raw (.bool !M.btw (at' gs (i.toNat * 5 + 2)) 2 32768), V.raw (.bool !M.btw (at' gs (i.toNat * 5 + 2)) 2 32768), V.lit false, .ptr 1 2, iV (at' gs (i.toNat * 5 + 2)), iV ((at' gs (i.toNat * 5 + 2)).tmod 2), V.raw (.bool !decide ((at' gs (i.toNat * 5 + 2)).tmod (2 : Int) = (0 : Int))), V.raw (.bool !decide ((at' gs (i.toNat * 5 + 2)).tmod (2 : Int) = (0 : Int))), V.lit false, .ptr 1 3, iV (at' gs (i.toNat * 5 + 3)), V.raw (.bool (M.btw (at' gs (i.toNat * 5 + 3)) 1 8192)), V.raw (.bool !M.btw (at' gs (i.toNat * 5 + 3)) 1 8192), V.raw (.bool !M.btw (at' gs (i.toNat * 5 + 3)) 1 8192), iV (i + 1)]) (h1 := (zq183 gs T i)) (body_of cfx_mixed cfx_call zz (rnd := none) (fi := 0) (k := 0) (n := 40) (n0 := 1) (ans := [zT, Ans.val 0 (V.raw (.agg { toList := [.int .i64 (at' gs (i.toNat * 5)), .int .i64 (at' gs (i.toNat * 5 + 1)), .int .i64 (at' gs (i.toNat * 5 + 2)), .int .i64 (at' gs (i.toNat * 5 + 3)), .bool (nz gs (i.toNat * 5 + 4))] })), Ans.ret (V.raw (.bool (M.btw (at' gs (i.toNat * 5)) 0 4194304))), zF, Ans.ret (V.raw (.bool (M.btw (at' gs (i.toNat * 5 + 1)) 0 4194304))), zF, zF, Ans.ret (V.raw (.bool (M.btw (at' gs (i.toNat * 5 + 2)) 2 32768))), zF, zF, zF, zF, Ans.ret (V.raw (.bool (M.btw (at' gs (i.toNat * 5 + 3)) 1 8192))), zF, zF]) (cons := [(decide (i < (n : Int)) = true), (0 ≤ i ∧ i < (n : Int)), (loadRow cfx 71 (mix [false, false, false, false, true] gs) (i.toNat * 5) = some (V.raw (.agg { toList := [.int .i64 (at' gs (i.toNat * 5)), .int .i64 (at' gs (i.toNat * 5 + 1)), .int .i64 (at' gs (i.toNat * 5 + 2)), .int .i64 (at' gs (i.toNat * 5 + 3)), .bool (nz gs (i.toNat * 5 + 4))] }))), ((zq212 gs i)), ((!M.btw (at' gs (i.toNat * 5)) 0 4194304) = false), ((zq206 gs i)), (false = false), ((!M.btw (at' gs (i.toNat * 5 + 1)) 0 4194304) = false), ((zq208 gs i)), (false = false), ((!M.btw (at' gs (i.toNat * 5 + 2)) 2 32768) = false), ((2 : Int) ≠ (0 : Int)), (false = false), ((!decide ((at' gs (i.toNat * 5 + 2)).tmod (2 : Int) = (0 : Int))) = false), (Ret cfx 69 [iV (at' gs (i.toNat * 5 + 3)), iV 1, iV 8192] (V.raw (.bool (M.btw (at' gs (i.toNat * 5 + 3)) 1 8192)))), (false = false), ((!M.btw (at' gs (i.toNat * 5 + 3)) 1 8192) = false), (inR IntKind.i64 (i + 1))]) zk
    ⟨zdo, (by omega), (load_mix 5 0 (by kernel_rfl) (by kernel_rfl) (Nat.le_of_ble_eq_true rfl) (by show _ % 5 = 0; omega) (Nat.le_of_ble_eq_true rfl) (by omega)), (lnBetween _ _ _), zdf, (lnBetween _ _ _), rfl, zdf, (lnBetween _ _ _), rfl, zdf, zds, rfl, zdf, (lnBetween _ _ _), rfl, zdf, inR_i64 (by omega) (by omega), trivial⟩ (Nat.le_of_ble_eq_true rfl) (Nat.le_of_ble_eq_true rfl) noRnd (noRanges (by kernel_rfl))) zt5
def hf_T7 (gs : List Int) (n : Nat) (T : Nat) (i : Int) : List V := (zq110 n i)
def hf_H7 (gs : List Int) (n : Nat) (T : Nat) (i : Int) : Heap := [bkG gs T]
theorem hf_7 (gs : List Int) (n : Nat) (T : Nat) (hz : n * 5 ≤ gs.length) (hn : n ≤ 20) (i : Int) (hi1 : 0 ≤ i) (f0 : ¬i < (n : Int)) : Runs cfx 0 1 none (loopOf cfx.P 94 0) (hf_T gs n T i) (hf_H gs n T i) (Ex.exit 0) (hf_T7 gs n T i) (hf_H7 gs n T i) := by
  refine Runs.post (t1 := (catV [.slo 0 n, uV, V.raw (.bool false), uV, .any 4, .slo 0 n, iV (n : Int), iV i, V.raw (.bool (decide (i < (n : Int))))] (anyR 9 31 []))) (h1 := [bkG gs T]) (body_of cfx_mixed cfx_call zz (rnd := none) (fi := 0) (k := 0) (n := 40) (n0 := 1) (ans := [zF]) (cons := [(decide (i < (n : Int)) = false)]) zk
    ⟨zdo, trivial⟩ zb zb noRnd (noRanges zk)) zt9
abbrev zq79 (nm : ByteArray) (w : Int) (g : Int) (y : Int) (n : Nat) (a : Int) (b : Int) (r : Int) (p : Int) (q : Int) (k : Nat) (i : Int) : List V := (catV [lwA nm w g y n a b r p q k, .ptr 2 0, V.raw (.bool false), uV] (anyR 4 31 (catV [.slo 1 k, iV (k : Int), iV i] (anyR 38 20 []))))
def cf_T (nm : ByteArray) (gs cs : List Int) (n k : Nat) (T U : Nat) (w g y a b r p q : Int) (i : Int) : List V := (zq79 nm w g y n a b r p q k i)
def cf_H (nm : ByteArray) (gs cs : List Int) (n k : Nat) (T U : Nat) (w g y a b r p q : Int) (i : Int) : Heap := [bkG gs T, bkI cs U, bkW nm w g y n a b r p q k]
def cf_T1 (nm : ByteArray) (gs cs : List Int) (n k : Nat) (T U : Nat) (w g y a b r p q : Int) (i : Int) : List V := (zq79 nm w g y n a b r p q k i)
def cf_H1 (nm : ByteArray) (gs cs : List Int) (n k : Nat) (T U : Nat) (w g y a b r p q : Int) (i : Int) : Heap := [bkG gs T, bkI cs U, bkW nm w g y n a b r p q k]
abbrev zq185 (gs : List Int) (T : Nat) (cs : List Int) (U : Nat) (nm : ByteArray) (w : Int) (g : Int) (y : Int) (n : Nat) (a : Int) (b : Int) (r : Int) (p : Int) (q : Int) (k : Nat) (i : Int) : Heap := [bkG gs T, bkI cs U, bkW nm w g y n a b r p q k, some (.cells [iV (at' cs (i.toNat * 3)), iV (at' cs (i.toNat * 3 + 1)), iV (at' cs (i.toNat * 3 + 2))] 39 .rw)]
abbrev zq218 (cs : List Int) (i : Int) : Prop := Ret cfx 69 [iV (at' cs (i.toNat * 3)), iV 0, iV 65536] (V.raw (.bool (M.btw (at' cs (i.toNat * 3)) 0 65536)))
theorem cf_1 (nm : ByteArray) (gs cs : List Int) (n k : Nat) (T U : Nat) (w g y a b r p q : Int) (hz : k * 3 ≤ cs.length) (hp : 1 ≤ p ∧ p ≤ 16) (hq : 1 ≤ q ∧ q ≤ 16) (hk : (k : Int) = p * q) (hk3 : k ≤ 256) (i : Int) (hi1 : 0 ≤ i) (f0 : i < (k : Int)) (f1 : M.btw (at' cs (i.toNat * 3)) 0 65536 = false) : Runs cfx 0 3 none (loopOf cfx.P 95 0) (cf_T nm gs cs n k T U w g y a b r p q i) (cf_H nm gs cs n k T U w g y a b r p q i) (Ex.ret) (cf_T1 nm gs cs n k T U w g y a b r p q i) (cf_H1 nm gs cs n k T U w g y a b r p q i) := by
  refine Runs.post (t1 := (catV [lwA nm w g y n a b r p q k, .ptr 2 0, V.raw (.bool false), uV, .ptr 3 0] (anyR 5 30 [.slo 1 k, iV (k : Int), iV i, V.raw (.bool (decide (i < (k : Int)))), V.ptr 1 (i.toNat * 3), (rowV cs (i.toNat * 3) 3), .ptr 3 0, iV (at' cs (i.toNat * 3)), V.raw (.bool (M.btw (at' cs (i.toNat * 3)) 0 65536)), V.raw (.bool !M.btw (at' cs (i.toNat * 3)) 0 65536), V.lit true, uV, uV, uV, uV, V.raw (.bool true), V.lit true, uV, uV, uV, uV, V.raw (.bool true), .any 57]))) (h1 := (zq185 gs T cs U nm w g y n a b r p q k i)) (body_of cfx_mixed cfx_call zz (rnd := none) (fi := 0) (k := 0) (n := 40) (n0 := 3) (ans := [zT, Ans.val 1 ((rowV cs (i.toNat * 3) 3)), Ans.ret (V.raw (.bool (M.btw (at' cs (i.toNat * 3)) 0 65536))), zT, zT, zT, zT, zT]) (cons := [(decide (i < (k : Int)) = true), (0 ≤ i ∧ i < (k : Int)), (loadRow cfx 39 (ints cs) (i.toNat * 3) = some ((rowV cs (i.toNat * 3) 3))), ((zq218 cs i)), ((!M.btw (at' cs (i.toNat * 3)) 0 65536) = true), (true = true), (true = true), (true = true), (true = true)]) zk
    ⟨zdo, zo, (load_agg 3 zk zk zb zo), (lnBetween _ _ _), zdf, rfl, rfl, rfl, rfl, trivial⟩ zb zb noRnd (noRanges zk)) zt4
def cf_T2 (nm : ByteArray) (gs cs : List Int) (n k : Nat) (T U : Nat) (w g y a b r p q : Int) (i : Int) : List V := (zq79 nm w g y n a b r p q k i)
def cf_H2 (nm : ByteArray) (gs cs : List Int) (n k : Nat) (T U : Nat) (w g y a b r p q : Int) (i : Int) : Heap := [bkG gs T, bkI cs U, bkW nm w g y n a b r p q k]
abbrev zq213 (cs : List Int) (i : Int) : Prop := Ret cfx 110 [iV (at' cs (i.toNat * 3 + 1))] (V.raw (.bool (M.btw (at' cs (i.toNat * 3 + 1)) (-4096 : Int) 4096)))
theorem cf_2 (nm : ByteArray) (gs cs : List Int) (n k : Nat) (T U : Nat) (w g y a b r p q : Int) (hz : k * 3 ≤ cs.length) (hp : 1 ≤ p ∧ p ≤ 16) (hq : 1 ≤ q ∧ q ≤ 16) (hk : (k : Int) = p * q) (hk3 : k ≤ 256) (i : Int) (hi1 : 0 ≤ i) (f0 : i < (k : Int)) (f1 : M.btw (at' cs (i.toNat * 3)) 0 65536 = true) (f2 : M.btw (at' cs (i.toNat * 3 + 1)) (-4096 : Int) 4096 = false) : Runs cfx 0 3 none (loopOf cfx.P 95 0) (cf_T nm gs cs n k T U w g y a b r p q i) (cf_H nm gs cs n k T U w g y a b r p q i) (Ex.ret) (cf_T2 nm gs cs n k T U w g y a b r p q i) (cf_H2 nm gs cs n k T U w g y a b r p q i) := by
  refine Runs.post (t1 := (catV [lwA nm w g y n a b r p q k, .ptr 2 0, V.raw (.bool false), uV, .ptr 3 0] (anyR 5 30 [.slo 1 k, iV (k : Int), iV i, V.raw (.bool (decide (i < (k : Int)))), V.ptr 1 (i.toNat * 3), (rowV cs (i.toNat * 3) 3), .ptr 3 0, iV (at' cs (i.toNat * 3)), V.raw (.bool (M.btw (at' cs (i.toNat * 3)) 0 65536)), V.raw (.bool !M.btw (at' cs (i.toNat * 3)) 0 65536), V.lit false, .ptr 3 1, iV (at' cs (i.toNat * 3 + 1)), V.raw (.bool (M.btw (at' cs (i.toNat * 3 + 1)) (-4096 : Int) 4096)), V.raw (.bool !M.btw (at' cs (i.toNat * 3 + 1)) (-4096 : Int) 4096), V.raw (.bool !M.btw (at' cs (i.toNat * 3 + 1)) (-4096 : Int) 4096), V.lit true, uV, uV, uV, uV, V.raw (.bool true), .any 57]))) (h1 := (zq185 gs T cs U nm w g y n a b r p q k i)) (body_of cfx_mixed cfx_call zz (rnd := none) (fi := 0) (k := 0) (n := 40) (n0 := 3) (ans := [zT, Ans.val 1 ((rowV cs (i.toNat * 3) 3)), Ans.ret (V.raw (.bool (M.btw (at' cs (i.toNat * 3)) 0 65536))), zF, Ans.ret (V.raw (.bool (M.btw (at' cs (i.toNat * 3 + 1)) (-4096 : Int) 4096))), zF, zT, zT, zT]) (cons := [(decide (i < (k : Int)) = true), (0 ≤ i ∧ i < (k : Int)), (loadRow cfx 39 (ints cs) (i.toNat * 3) = some ((rowV cs (i.toNat * 3) 3))), ((zq218 cs i)), ((!M.btw (at' cs (i.toNat * 3)) 0 65536) = false), ((zq213 cs i)), (false = false), ((!M.btw (at' cs (i.toNat * 3 + 1)) (-4096 : Int) 4096) = true), (true = true), (true = true)]) zk
    ⟨zdo, zo, (load_agg 3 zk zk zb zo), (lnBetween _ _ _), zdf, (lnIsSlope _), rfl, zdf, rfl, rfl, trivial⟩ zb zb noRnd (noRanges zk)) zt4
def cf_T3 (nm : ByteArray) (gs cs : List Int) (n k : Nat) (T U : Nat) (w g y a b r p q : Int) (i : Int) : List V := (zq79 nm w g y n a b r p q k i)
def cf_H3 (nm : ByteArray) (gs cs : List Int) (n k : Nat) (T U : Nat) (w g y a b r p q : Int) (i : Int) : Heap := [bkG gs T, bkI cs U, bkW nm w g y n a b r p q k]
theorem cf_3 (nm : ByteArray) (gs cs : List Int) (n k : Nat) (T U : Nat) (w g y a b r p q : Int) (hz : k * 3 ≤ cs.length) (hp : 1 ≤ p ∧ p ≤ 16) (hq : 1 ≤ q ∧ q ≤ 16) (hk : (k : Int) = p * q) (hk3 : k ≤ 256) (i : Int) (hi1 : 0 ≤ i) (f0 : i < (k : Int)) (f1 : M.btw (at' cs (i.toNat * 3)) 0 65536 = true) (f2 : M.btw (at' cs (i.toNat * 3 + 1)) (-4096 : Int) 4096 = true) (f3 : M.btw (at' cs (i.toNat * 3 + 2)) (-4096 : Int) 4096 = false) : Runs cfx 0 3 none (loopOf cfx.P 95 0) (cf_T nm gs cs n k T U w g y a b r p q i) (cf_H nm gs cs n k T U w g y a b r p q i) (Ex.ret) (cf_T3 nm gs cs n k T U w g y a b r p q i) (cf_H3 nm gs cs n k T U w g y a b r p q i) := by
  refine Runs.post (t1 := (catV [lwA nm w g y n a b r p q k, .ptr 2 0, V.raw (.bool false), uV, .ptr 3 0] (anyR 5 30 [.slo 1 k, iV (k : Int), iV i, V.raw (.bool (decide (i < (k : Int)))), V.ptr 1 (i.toNat * 3), (rowV cs (i.toNat * 3) 3), .ptr 3 0, iV (at' cs (i.toNat * 3)), V.raw (.bool (M.btw (at' cs (i.toNat * 3)) 0 65536)), V.raw (.bool !M.btw (at' cs (i.toNat * 3)) 0 65536), V.lit false, .ptr 3 1, iV (at' cs (i.toNat * 3 + 1)), V.raw (.bool (M.btw (at' cs (i.toNat * 3 + 1)) (-4096 : Int) 4096)), V.raw (.bool !M.btw (at' cs (i.toNat * 3 + 1)) (-4096 : Int) 4096), V.raw (.bool !M.btw (at' cs (i.toNat * 3 + 1)) (-4096 : Int) 4096), V.lit false, .ptr 3 2, iV (at' cs (i.toNat * 3 + 2)), V.raw (.bool (M.btw (at' cs (i.toNat * 3 + 2)) (-4096 : Int) 4096)), V.raw (.bool !M.btw (at' cs (i.toNat * 3 + 2)) (-4096 : Int) 4096), V.raw (.bool !M.btw (at' cs (i.toNat * 3 + 2)) (-4096 : Int) 4096), .any 57]))) (h1 := (zq185 gs T cs U nm w g y n a b r p q k i)) (body_of cfx_mixed cfx_call zz (rnd := none) (fi := 0) (k := 0) (n := 40) (n0 := 3) (ans := [zT, Ans.val 1 ((rowV cs (i.toNat * 3) 3)), Ans.ret (V.raw (.bool (M.btw (at' cs (i.toNat * 3)) 0 65536))), zF, Ans.ret (V.raw (.bool (M.btw (at' cs (i.toNat * 3 + 1)) (-4096 : Int) 4096))), zF, zF, Ans.ret (V.raw (.bool (M.btw (at' cs (i.toNat * 3 + 2)) (-4096 : Int) 4096))), zF, zT]) (cons := [(decide (i < (k : Int)) = true), (0 ≤ i ∧ i < (k : Int)), (loadRow cfx 39 (ints cs) (i.toNat * 3) = some ((rowV cs (i.toNat * 3) 3))), ((zq218 cs i)), ((!M.btw (at' cs (i.toNat * 3)) 0 65536) = false), ((zq213 cs i)), (false = false), ((!M.btw (at' cs (i.toNat * 3 + 1)) (-4096 : Int) 4096) = false), (Ret cfx 110 [iV (at' cs (i.toNat * 3 + 2))] (V.raw (.bool (M.btw (at' cs (i.toNat * 3 + 2)) (-4096 : Int) 4096)))), (false = false), ((!M.btw (at' cs (i.toNat * 3 + 2)) (-4096 : Int) 4096) = true)]) zk
    ⟨zdo, zo, (load_agg 3 zk zk zb zo), (lnBetween _ _ _), zdf, (lnIsSlope _), rfl, zdf, (lnIsSlope _), rfl, zdf, trivial⟩ zb zb noRnd (noRanges zk)) zt4
theorem cf_4 (nm : ByteArray) (gs cs : List Int) (n k : Nat) (T U : Nat) (w g y a b r p q : Int) (hz : k * 3 ≤ cs.length) (hp : 1 ≤ p ∧ p ≤ 16) (hq : 1 ≤ q ∧ q ≤ 16) (hk : (k : Int) = p * q) (hk3 : k ≤ 256) (i : Int) (hi1 : 0 ≤ i) (f0 : i < (k : Int)) (f1 : M.btw (at' cs (i.toNat * 3)) 0 65536 = true) (f2 : M.btw (at' cs (i.toNat * 3 + 1)) (-4096 : Int) 4096 = true) (f3 : M.btw (at' cs (i.toNat * 3 + 2)) (-4096 : Int) 4096 = true) : Runs cfx 0 3 none (loopOf cfx.P 95 0) (cf_T nm gs cs n k T U w g y a b r p q i) (cf_H nm gs cs n k T U w g y a b r p q i) (Ex.normal) (cf_T nm gs cs n k T U w g y a b r p q (i + 1)) (cf_H nm gs cs n k T U w g y a b r p q (i + 1)) := by
  refine Runs.post (t1 := (catV [lwA nm w g y n a b r p q k, .ptr 2 0, V.raw (.bool false), uV, .ptr 3 0] (anyR 5 30 [.slo 1 k, iV (k : Int), iV (i + 1), V.raw (.bool (decide (i < (k : Int)))), V.ptr 1 (i.toNat * 3), (rowV cs (i.toNat * 3) 3), .ptr 3 0, iV (at' cs (i.toNat * 3)), V.raw (.bool (M.btw (at' cs (i.toNat * 3)) 0 65536)), V.raw (.bool !M.btw (at' cs (i.toNat * 3)) 0 65536), V.lit false, .ptr 3 1, iV (at' cs (i.toNat * 3 + 1)), V.raw (.bool (M.btw (at' cs (i.toNat * 3 + 1)) (-4096 : Int) 4096)), V.raw (.bool !M.btw (at' cs (i.toNat * 3 + 1)) (-4096 : Int) 4096), V.raw (.bool !M.btw (at' cs (i.toNat * 3 + 1)) (-4096 : Int) 4096), V.lit false, .ptr 3 2, iV (at' cs (i.toNat * 3 + 2)), V.raw (.bool (M.btw (at' cs (i.toNat * 3 + 2)) (-4096 : Int) 4096)), V.raw (.bool !M.btw (at' cs (i.toNat * 3 + 2)) (-4096 : Int) 4096), V.raw (.bool !M.btw (at' cs (i.toNat * 3 + 2)) (-4096 : Int) 4096), iV (i + 1)]))) (h1 := (zq185 gs T cs U nm w g y n a b r p q k i)) (body_of cfx_mixed cfx_call zz (rnd := none) (fi := 0) (k := 0) (n := 40) (n0 := 3) (ans := [zT, Ans.val 1 ((rowV cs (i.toNat * 3) 3)), Ans.ret (V.raw (.bool (M.btw (at' cs (i.toNat * 3)) 0 65536))), zF, Ans.ret (V.raw (.bool (M.btw (at' cs (i.toNat * 3 + 1)) (-4096 : Int) 4096))), zF, zF, Ans.ret (V.raw (.bool (M.btw (at' cs (i.toNat * 3 + 2)) (-4096 : Int) 4096))), zF, zF]) (cons := [(decide (i < (k : Int)) = true), (0 ≤ i ∧ i < (k : Int)), (loadRow cfx 39 (ints cs) (i.toNat * 3) = some ((rowV cs (i.toNat * 3) 3))), ((zq218 cs i)), ((!M.btw (at' cs (i.toNat * 3)) 0 65536) = false), ((zq213 cs i)), (false = false), ((!M.btw (at' cs (i.toNat * 3 + 1)) (-4096 : Int) 4096) = false), (Ret cfx 110 [iV (at' cs (i.toNat * 3 + 2))] (V.raw (.bool (M.btw (at' cs (i.toNat * 3 + 2)) (-4096 : Int) 4096)))), (false = false), ((!M.btw (at' cs (i.toNat * 3 + 2)) (-4096 : Int) 4096) = false), (inR IntKind.i64 (i + 1))]) zk
    ⟨zdo, zo, (load_agg 3 zk zk zb zo), (lnBetween _ _ _), zdf, (lnIsSlope _), rfl, zdf, (lnIsSlope _), rfl, zdf, inR_i64 zo zo, trivial⟩ zb zb noRnd (noRanges zk)) zt4
def cf_T5 (nm : ByteArray) (gs cs : List Int) (n k : Nat) (T U : Nat) (w g y a b r p q : Int) (i : Int) : List V := (zq79 nm w g y n a b r p q k i)
def cf_H5 (nm : ByteArray) (gs cs : List Int) (n k : Nat) (T U : Nat) (w g y a b r p q : Int) (i : Int) : Heap := [bkG gs T, bkI cs U, bkW nm w g y n a b r p q k]
theorem cf_5 (nm : ByteArray) (gs cs : List Int) (n k : Nat) (T U : Nat) (w g y a b r p q : Int) (hz : k * 3 ≤ cs.length) (hp : 1 ≤ p ∧ p ≤ 16) (hq : 1 ≤ q ∧ q ≤ 16) (hk : (k : Int) = p * q) (hk3 : k ≤ 256) (i : Int) (hi1 : 0 ≤ i) (f0 : ¬i < (k : Int)) : Runs cfx 0 3 none (loopOf cfx.P 95 0) (cf_T nm gs cs n k T U w g y a b r p q i) (cf_H nm gs cs n k T U w g y a b r p q i) (Ex.exit 0) (cf_T5 nm gs cs n k T U w g y a b r p q i) (cf_H5 nm gs cs n k T U w g y a b r p q i) := by
  refine Runs.post (t1 := (catV [lwA nm w g y n a b r p q k, .ptr 2 0, V.raw (.bool false), uV] (anyR 4 31 (catV [.slo 1 k, iV (k : Int), iV i, V.raw (.bool (decide (i < (k : Int))))] (anyR 39 19 []))))) (h1 := [bkG gs T, bkI cs U, bkW nm w g y n a b r p q k]) (body_of cfx_mixed cfx_call zz (rnd := none) (fi := 0) (k := 0) (n := 40) (n0 := 3) (ans := [zF]) (cons := [(decide (i < (k : Int)) = false)]) zk
    ⟨zdo, trivial⟩ zb zb noRnd (noRanges zk)) zt4
abbrev zq21 (nm : ByteArray) (w : Int) (g : Int) (y : Int) (n : Nat) (a : Int) (b : Int) (r : Int) (p : Int) (q : Int) (k : Nat) (i : Int) : List V := (catV [lwA nm w g y n a b r p q k, .ptr 2 0, iV 0, iV i] (anyR 4 220 []))
def rck_T (nm : ByteArray) (gs cs : List Int) (n k : Nat) (T U : Nat) (w g y a b r p q : Int) (i : Int) : List V := (zq21 nm w g y n a b r p q k i)
def rck_H (nm : ByteArray) (gs cs : List Int) (n k : Nat) (T U : Nat) (w g y a b r p q : Int) (i : Int) : Heap := [bkG gs T, bkI cs U, bkW nm w g y n a b r p q k]
def rck_T1 (nm : ByteArray) (gs cs : List Int) (n k : Nat) (T U : Nat) (w g y a b r p q : Int) (i : Int) : List V := (catV [lwA nm w g y n a b r p q k, .ptr 2 0, iV 2, iV i] (anyR 4 220 []))
def rck_H1 (nm : ByteArray) (gs cs : List Int) (n k : Nat) (T U : Nat) (w g y a b r p q : Int) (i : Int) : Heap := [bkG gs T, bkI cs U, bkW nm w g y n a b r p q k]
abbrev zq251 (gs : List Int) (i : Int) : List V := [V.raw (.agg { toList := [.int .i64 (at' gs (i.toNat * 5)), .int .i64 (at' gs (i.toNat * 5 + 1)), .int .i64 (at' gs (i.toNat * 5 + 2)), .int .i64 (at' gs (i.toNat * 5 + 3)), .bool (nz gs (i.toNat * 5 + 4))] })]
abbrev zq112 (gs : List Int) (i : Int) : Prop := Ret cfx 88 (zq251 gs i) (V.raw (.bool (M.hoopB (at' gs (i.toNat * 5)) (at' gs (i.toNat * 5 + 1)) (at' gs (i.toNat * 5 + 2)) (at' gs (i.toNat * 5 + 3)))))
theorem rck_1 (nm : ByteArray) (gs cs : List Int) (n k : Nat) (T U : Nat) (w g y a b r p q : Int) (hn1 : ¬ (n : Int) < 1) (hn2 : ¬ 12 < n) (hk : ¬ 256 < k) (hz : n * 5 ≤ gs.length) (hnm : Ret cfx 87 [.raw (.string nm)] (.raw (.bool true))) (hs1 : M.btw w 65536 4194304 = true) (hs2 : M.btw g 65536 4194304 = true) (hs3 : M.btw y 0 ((if g < w then g else w).tdiv 4) = true) (i : Int) (hi1 : 0 ≤ i) (f0 : i < (n : Int)) (f1 : M.hoopB (at' gs (i.toNat * 5)) (at' gs (i.toNat * 5 + 1)) (at' gs (i.toNat * 5 + 2)) (at' gs (i.toNat * 5 + 3)) = false) : Runs cfx 0 3 none (loopOf cfx.P 45 0) (rck_T nm gs cs n k T U w g y a b r p q i) (rck_H nm gs cs n k T U w g y a b r p q i) (Ex.ret) (rck_T1 nm gs cs n k T U w g y a b r p q i) (rck_H1 nm gs cs n k T U w g y a b r p q i) := by
  refine Runs.post (t1 := (catV [lwA nm w g y n a b r p q k, .ptr 2 0, iV 2, iV i] (anyR 4 48 (catV [iV i, .ptr 2 4, .slo 0 n, iV (n : Int), V.raw (.bool (decide (i < (n : Int)))), .any 57, .any 58, .ptr 2 4, .slo 0 n, iV i, V.ptr 0 (i.toNat * 5), V.raw (.agg { toList := [.int .i64 (at' gs (i.toNat * 5)), .int .i64 (at' gs (i.toNat * 5 + 1)), .int .i64 (at' gs (i.toNat * 5 + 2)), .int .i64 (at' gs (i.toNat * 5 + 3)), .bool (nz gs (i.toNat * 5 + 4))] }), V.raw (.bool (M.hoopB (at' gs (i.toNat * 5)) (at' gs (i.toNat * 5 + 1)) (at' gs (i.toNat * 5 + 2)) (at' gs (i.toNat * 5 + 3)))), V.raw (.bool !M.hoopB (at' gs (i.toNat * 5)) (at' gs (i.toNat * 5 + 1)) (at' gs (i.toNat * 5 + 2)) (at' gs (i.toNat * 5 + 3)))] (anyR 66 158 []))))) (h1 := [bkG gs T, bkI cs U, bkW nm w g y n a b r p q k]) (body_of cfx_mixed cfx_call zz (rnd := none) (fi := 0) (k := 0) (n := 40) (n0 := 3) (ans := [zT, Ans.val 0 (V.raw (.agg { toList := [.int .i64 (at' gs (i.toNat * 5)), .int .i64 (at' gs (i.toNat * 5 + 1)), .int .i64 (at' gs (i.toNat * 5 + 2)), .int .i64 (at' gs (i.toNat * 5 + 3)), .bool (nz gs (i.toNat * 5 + 4))] })), Ans.ret (V.raw (.bool (M.hoopB (at' gs (i.toNat * 5)) (at' gs (i.toNat * 5 + 1)) (at' gs (i.toNat * 5 + 2)) (at' gs (i.toNat * 5 + 3))))), zT]) (cons := [(decide (i < (n : Int)) = true), (0 ≤ i ∧ i < (n : Int)), (loadRow cfx 71 (mix [false, false, false, false, true] gs) (i.toNat * 5) = some (V.raw (.agg { toList := [.int .i64 (at' gs (i.toNat * 5)), .int .i64 (at' gs (i.toNat * 5 + 1)), .int .i64 (at' gs (i.toNat * 5 + 2)), .int .i64 (at' gs (i.toNat * 5 + 3)), .bool (nz gs (i.toNat * 5 + 4))] }))), ((zq112 gs i)), ((!M.hoopB (at' gs (i.toNat * 5)) (at' gs (i.toNat * 5 + 1)) (at' gs (i.toNat * 5 + 2)) (at' gs (i.toNat * 5 + 3))) = true)]) zk
    ⟨zdo, (by omega), (load_mix 5 0 (by kernel_rfl) (by kernel_rfl) (Nat.le_of_ble_eq_true rfl) (by show _ % 5 = 0; omega) (Nat.le_of_ble_eq_true rfl) (by omega)), (lnHoop _ _ _ _ _), zdf, trivial⟩ (Nat.le_of_ble_eq_true rfl) (Nat.le_of_ble_eq_true rfl) noRnd (noRanges (by kernel_rfl))) zt12
theorem rck_2 (nm : ByteArray) (gs cs : List Int) (n k : Nat) (T U : Nat) (w g y a b r p q : Int) (hn1 : ¬ (n : Int) < 1) (hn2 : ¬ 12 < n) (hk : ¬ 256 < k) (hz : n * 5 ≤ gs.length) (hnm : Ret cfx 87 [.raw (.string nm)] (.raw (.bool true))) (hs1 : M.btw w 65536 4194304 = true) (hs2 : M.btw g 65536 4194304 = true) (hs3 : M.btw y 0 ((if g < w then g else w).tdiv 4) = true) (i : Int) (hi1 : 0 ≤ i) (f0 : i < (n : Int)) (f1 : M.hoopB (at' gs (i.toNat * 5)) (at' gs (i.toNat * 5 + 1)) (at' gs (i.toNat * 5 + 2)) (at' gs (i.toNat * 5 + 3)) = true) : Runs cfx 0 3 none (loopOf cfx.P 45 0) (rck_T nm gs cs n k T U w g y a b r p q i) (rck_H nm gs cs n k T U w g y a b r p q i) (Ex.normal) (rck_T nm gs cs n k T U w g y a b r p q (i + 1)) (rck_H nm gs cs n k T U w g y a b r p q (i + 1)) := by
  refine Runs.post (t1 := (catV [lwA nm w g y n a b r p q k, .ptr 2 0, iV 0, iV (i + 1)] (anyR 4 48 (catV [iV i, .ptr 2 4, .slo 0 n, iV (n : Int), V.raw (.bool (decide (i < (n : Int)))), iV i, iV (i + 1), .ptr 2 4, .slo 0 n, iV i, V.ptr 0 (i.toNat * 5), V.raw (.agg { toList := [.int .i64 (at' gs (i.toNat * 5)), .int .i64 (at' gs (i.toNat * 5 + 1)), .int .i64 (at' gs (i.toNat * 5 + 2)), .int .i64 (at' gs (i.toNat * 5 + 3)), .bool (nz gs (i.toNat * 5 + 4))] }), V.raw (.bool (M.hoopB (at' gs (i.toNat * 5)) (at' gs (i.toNat * 5 + 1)) (at' gs (i.toNat * 5 + 2)) (at' gs (i.toNat * 5 + 3)))), V.raw (.bool !M.hoopB (at' gs (i.toNat * 5)) (at' gs (i.toNat * 5 + 1)) (at' gs (i.toNat * 5 + 2)) (at' gs (i.toNat * 5 + 3)))] (anyR 66 158 []))))) (h1 := [bkG gs T, bkI cs U, bkW nm w g y n a b r p q k]) (body_of cfx_mixed cfx_call zz (rnd := none) (fi := 0) (k := 0) (n := 40) (n0 := 3) (ans := [zT, Ans.val 0 (V.raw (.agg { toList := [.int .i64 (at' gs (i.toNat * 5)), .int .i64 (at' gs (i.toNat * 5 + 1)), .int .i64 (at' gs (i.toNat * 5 + 2)), .int .i64 (at' gs (i.toNat * 5 + 3)), .bool (nz gs (i.toNat * 5 + 4))] })), Ans.ret (V.raw (.bool (M.hoopB (at' gs (i.toNat * 5)) (at' gs (i.toNat * 5 + 1)) (at' gs (i.toNat * 5 + 2)) (at' gs (i.toNat * 5 + 3))))), zF]) (cons := [(decide (i < (n : Int)) = true), (0 ≤ i ∧ i < (n : Int)), (loadRow cfx 71 (mix [false, false, false, false, true] gs) (i.toNat * 5) = some (V.raw (.agg { toList := [.int .i64 (at' gs (i.toNat * 5)), .int .i64 (at' gs (i.toNat * 5 + 1)), .int .i64 (at' gs (i.toNat * 5 + 2)), .int .i64 (at' gs (i.toNat * 5 + 3)), .bool (nz gs (i.toNat * 5 + 4))] }))), ((zq112 gs i)), ((!M.hoopB (at' gs (i.toNat * 5)) (at' gs (i.toNat * 5 + 1)) (at' gs (i.toNat * 5 + 2)) (at' gs (i.toNat * 5 + 3))) = false), (inR IntKind.i64 (i + 1))]) zk
    ⟨zdo, (by omega), (load_mix 5 0 (by kernel_rfl) (by kernel_rfl) (Nat.le_of_ble_eq_true rfl) (by show _ % 5 = 0; omega) (Nat.le_of_ble_eq_true rfl) (by omega)), (lnHoop _ _ _ _ _), zdf, inR_i64 (by omega) (by omega), trivial⟩ (Nat.le_of_ble_eq_true rfl) (Nat.le_of_ble_eq_true rfl) noRnd (noRanges (by kernel_rfl))) zt12
def rck_T3 (nm : ByteArray) (gs cs : List Int) (n k : Nat) (T U : Nat) (w g y a b r p q : Int) (i : Int) : List V := (zq21 nm w g y n a b r p q k i)
def rck_H3 (nm : ByteArray) (gs cs : List Int) (n k : Nat) (T U : Nat) (w g y a b r p q : Int) (i : Int) : Heap := [bkG gs T, bkI cs U, bkW nm w g y n a b r p q k]
theorem rck_3 (nm : ByteArray) (gs cs : List Int) (n k : Nat) (T U : Nat) (w g y a b r p q : Int) (hn1 : ¬ (n : Int) < 1) (hn2 : ¬ 12 < n) (hk : ¬ 256 < k) (hz : n * 5 ≤ gs.length) (hnm : Ret cfx 87 [.raw (.string nm)] (.raw (.bool true))) (hs1 : M.btw w 65536 4194304 = true) (hs2 : M.btw g 65536 4194304 = true) (hs3 : M.btw y 0 ((if g < w then g else w).tdiv 4) = true) (i : Int) (hi1 : 0 ≤ i) (f0 : ¬i < (n : Int)) : Runs cfx 0 3 none (loopOf cfx.P 45 0) (rck_T nm gs cs n k T U w g y a b r p q i) (rck_H nm gs cs n k T U w g y a b r p q i) (Ex.exit 0) (rck_T3 nm gs cs n k T U w g y a b r p q i) (rck_H3 nm gs cs n k T U w g y a b r p q i) := by
  refine Runs.post (t1 := (catV [lwA nm w g y n a b r p q k, .ptr 2 0, iV 0, iV i] (anyR 4 48 (catV [iV i, .ptr 2 4, .slo 0 n, iV (n : Int), V.raw (.bool (decide (i < (n : Int))))] (anyR 57 167 []))))) (h1 := [bkG gs T, bkI cs U, bkW nm w g y n a b r p q k]) (body_of cfx_mixed cfx_call zz (rnd := none) (fi := 0) (k := 0) (n := 40) (n0 := 3) (ans := [zF]) (cons := [(decide (i < (n : Int)) = false)]) zk
    ⟨zdo, trivial⟩ zb zb noRnd (noRanges zk)) zt4
end Go.Proofs.Ytmelbcmfahcffaa
end
section
namespace Go.Proofs.Ytmelbcmfahcffaa
open Go Go.RowKit Go.Proofs.Ytmelbcmfahcffaa.E2
variable (nm : ByteArray) (gs cs : List Int) (n k : Nat) (T U : Nat) (w g y a b r p q : Int)
def M.cellsB (cs : List Int) (k : Nat) : Bool := (List.range k).all (M.cellZ cs)
theorem cf_loop (nm : ByteArray) (gs cs : List Int) (n k : Nat) (T U : Nat) (w g y a b r p q : Int) (hz : k * 3 ≤ cs.length) (hp : 1 ≤ p ∧ p ≤ 16) (hq : 1 ≤ q ∧ q ≤ 16) (hk : (k : Int) = p * q) (hk3 : k ≤ 256) : (M.cellsB cs k = true ∧ Runs cfx 0 3 none (.loop (loopOf cfx.P 95 0)) (cf_T nm gs cs n k T U w g y a b r p q 0) (cf_H nm gs cs n k T U w g y a b r p q 0) (.exit 0) (cf_T5 nm gs cs n k T U w g y a b r p q k) (cf_H5 nm gs cs n k T U w g y a b r p q k)) ∨ (M.cellsB cs k = false ∧ ∃ i : Nat, Runs cfx 0 3 none (.loop (loopOf cfx.P 95 0)) (cf_T nm gs cs n k T U w g y a b r p q 0) (cf_H nm gs cs n k T U w g y a b r p q 0) (.ret) (cf_T1 nm gs cs n k T U w g y a b r p q i) (cf_H1 nm gs cs n k T U w g y a b r p q i)) := by
  rcases upto_find (c := cfx) (lim := 0) (n0 := 3) (x := loopOf cfx.P 95 0) noRnd (M.cellZ cs) (fun i : Nat => cf_T nm gs cs n k T U w g y a b r p q i) (fun i : Nat => cf_H nm gs cs n k T U w g y a b r p q i) k (fun i : Nat => cf_T1 nm gs cs n k T U w g y a b r p q i) (fun i : Nat => cf_H1 nm gs cs n k T U w g y a b r p q i) (e := .exit 0) (e1 := .ret) (by simp) (by simp)
    (fun i hi hg => by
      simp only [M.cellZ, M.cellB, Bool.and_eq_true] at hg
      obtain ⟨⟨q1, q2⟩, q3⟩ := hg
      exact cf_4 nm gs cs n k T U w g y a b r p q hz hp hq hk hk3 i zo zo q1 q2 q3)
    (fun i hi hg => by
      cases q1 : M.btw (at' cs (i * 3)) 0 65536 with
      | false => exact cf_1 nm gs cs n k T U w g y a b r p q hz hp hq hk hk3 i zo zo q1
      | true =>
      cases q2 : M.btw (at' cs (i * 3 + 1)) (-4096) 4096 with
      | false => exact cf_2 nm gs cs n k T U w g y a b r p q hz hp hq hk hk3 i zo zo q1 q2
      | true =>
      cases q3 : M.btw (at' cs (i * 3 + 2)) (-4096) 4096 with
      | false => exact cf_3 nm gs cs n k T U w g y a b r p q hz hp hq hk hk3 i zo zo q1 q2 q3
      | true => simp [M.cellZ, M.cellB, q1, q2, q3] at hg)
    (cf_5 nm gs cs n k T U w g y a b r p q hz hp hq hk hk3 k zo zo) with ⟨h1, h2⟩ | ⟨h1, i, hi, h2, h3, h4⟩
  · exact .inl ⟨h1, h2⟩
  · exact .inr ⟨h1, i, h4⟩
abbrev zq49 (nm : ByteArray) (w : Int) (g : Int) (y : Int) (n : Nat) (a : Int) (b : Int) (r : Int) (p : Int) (q : Int) (k : Nat) : List V := (catV [lwA nm w g y n a b r p q k, .ptr 2 0, V.raw (.bool false), uV, uV, .ptr 2 8, iV p, V.raw (.bool (decide (p < 1))), V.lit false, .ptr 2 8, iV p, V.raw (.bool (decide (16 < p))), V.raw (.bool (decide (16 < p))), V.lit false, .ptr 2 9, iV q, V.raw (.bool (decide (q < 1))), V.raw (.bool (decide (q < 1))), V.lit false, .ptr 2 9, iV q, V.raw (.bool (decide (16 < q))), V.raw (.bool (decide (16 < q))), V.lit false, .ptr 2 10, .slo 1 k, iV (k : Int), .ptr 2 8, iV p, .ptr 2 9, iV q, iV (p * q), V.raw (.bool !decide ((k : Int) = p * q)), V.raw (.bool !decide ((k : Int) = p * q)), .ptr 2 10, .slo 1 k, iV (k : Int), iV 0] (repU 20 []))
abbrev zq77 (nm : ByteArray) (w : Int) (g : Int) (y : Int) (n : Nat) (a : Int) (b : Int) (r : Int) (p : Int) (q : Int) (k : Nat) : List V := (catV [lwA nm w g y n a b r p q k, .ptr 2 0, V.raw (.bool false), uV] (anyR 4 31 (catV [.slo 1 k, iV (k : Int), iV (k : Int)] (anyR 38 20 []))))
theorem cellsFit_ok (nm : ByteArray) (gs cs : List Int) (n k : Nat) (T U : Nat) (w g y a b r p q : Int) (hz : k * 3 ≤ cs.length) (hp : 1 ≤ p ∧ p ≤ 16) (hq : 1 ≤ q ∧ q ≤ 16) (hk : (k : Int) = p * q) (hk3 : k ≤ 256) (hR : Runs cfx 0 3 none (.loop (loopOf cfx.P 95 0)) (cf_T nm gs cs n k T U w g y a b r p q 0) (cf_H nm gs cs n k T U w g y a b r p q 0) (.exit 0) (cf_T5 nm gs cs n k T U w g y a b r p q k) (cf_H5 nm gs cs n k T U w g y a b r p q k))  : Meets cfx 0 95 [lwA nm w g y n a b r p q k] [bkG gs T, bkI cs U] (V.raw (.bool true)) [bkG gs T, bkI cs U] := by
  refine Meets.post (meets_ev cfx_mixed cfx_call zz zb (n := 40) (ans := [Ans.go, zF, zF, zF, zF, zF, zF, zF, zF, zF, Ans.loop (Ex.exit 0) (zq77 nm w g y n a b r p q k) [bkG gs T, bkI cs U, bkW nm w g y n a b r p q k]]) (v := V.raw (.bool true)) (h' := [bkG gs T, bkI cs U, bkW nm w g y n a b r p q k]) (cons := [(decide (p < 1) = false), (false = false), (decide (16 < p) = false), (false = false), (decide (q < 1) = false), (false = false), (decide (16 < q) = false), (inR IntKind.i64 (p * q)), (false = false), ((!decide ((k : Int) = p * q)) = false), (Runs cfx 0 3 none (.loop (loopOf cfx.P 95 0)) (zq49 nm w g y n a b r p q k) [bkG gs T, bkI cs U, bkW nm w g y n a b r p q k] (Ex.exit 0) (zq77 nm w g y n a b r p q k) [bkG gs T, bkI cs U, bkW nm w g y n a b r p q k])]) zk
    ⟨zdo, rfl, zdo, rfl, zdo, rfl, zdo, inR_i64 zo zo, rfl, zdf, (by
      refine Runs.pre (fun b e => by cases e) (fun RT RH => ?_) (hR)
      exact reshape2 (lim := 0) 3 (t := (zq49 nm w g y n a b r p q k)) (h := [bkG gs T, bkI cs U, bkW nm w g y n a b r p q k]) cfx_G rfl [] zk zk zdr RT RH), trivial⟩) zk zt0
abbrev zq78 (nm : ByteArray) (w : Int) (g : Int) (y : Int) (n : Nat) (a : Int) (b : Int) (r : Int) (p : Int) (q : Int) (k : Nat) (i : Nat) : List V := (catV [lwA nm w g y n a b r p q k, .ptr 2 0, V.raw (.bool false), uV] (anyR 4 31 (catV [.slo 1 k, iV (k : Int), iV (i : Int)] (anyR 38 20 []))))
theorem cellsFit_bad (nm : ByteArray) (gs cs : List Int) (n k : Nat) (T U : Nat) (w g y a b r p q : Int) (hz : k * 3 ≤ cs.length) (hp : 1 ≤ p ∧ p ≤ 16) (hq : 1 ≤ q ∧ q ≤ 16) (hk : (k : Int) = p * q) (hk3 : k ≤ 256) (i : Nat) (hR : Runs cfx 0 3 none (.loop (loopOf cfx.P 95 0)) (cf_T nm gs cs n k T U w g y a b r p q 0) (cf_H nm gs cs n k T U w g y a b r p q 0) (.ret) (cf_T1 nm gs cs n k T U w g y a b r p q i) (cf_H1 nm gs cs n k T U w g y a b r p q i))  : Meets cfx 0 95 [lwA nm w g y n a b r p q k] [bkG gs T, bkI cs U] (V.raw (.bool false)) [bkG gs T, bkI cs U] := by
  refine Meets.post (meets_ev cfx_mixed cfx_call zz zb (n := 40) (ans := [Ans.go, zF, zF, zF, zF, zF, zF, zF, zF, zF, Ans.loop Ex.ret (zq78 nm w g y n a b r p q k i) [bkG gs T, bkI cs U, bkW nm w g y n a b r p q k]]) (v := V.raw (.bool false)) (h' := [bkG gs T, bkI cs U, bkW nm w g y n a b r p q k]) (cons := [(decide (p < 1) = false), (false = false), (decide (16 < p) = false), (false = false), (decide (q < 1) = false), (false = false), (decide (16 < q) = false), (inR IntKind.i64 (p * q)), (false = false), ((!decide ((k : Int) = p * q)) = false), (Runs cfx 0 3 none (.loop (loopOf cfx.P 95 0)) (zq49 nm w g y n a b r p q k) [bkG gs T, bkI cs U, bkW nm w g y n a b r p q k] (Ex.ret) (zq78 nm w g y n a b r p q k i) [bkG gs T, bkI cs U, bkW nm w g y n a b r p q k])]) zk
    ⟨zdo, rfl, zdo, rfl, zdo, rfl, zdo, inR_i64 zo zo, rfl, zdf, (by
      refine Runs.pre (fun b e => by cases e) (fun RT RH => ?_) (hR)
      exact reshape2 (lim := 0) 3 (t := (zq49 nm w g y n a b r p q k)) (h := [bkG gs T, bkI cs U, bkW nm w g y n a b r p q k]) cfx_G rfl [] zk zk zdr RT RH), trivial⟩) zk zt0
theorem cellsFit_no0 (h1 : p < 1)  : Meets cfx 0 95 [lwA nm w g y n a b r p q k] [bkG gs T, bkI cs U] (V.raw (.bool false)) [bkG gs T, bkI cs U] := by
  refine Meets.post (meets_ev cfx_mixed cfx_call zz zb (n := 40) (ans := [Ans.go, zT, zT, zT, zT, zT, zT, zT, zT, zT]) (v := V.raw (.bool false)) (h' := [bkG gs T, bkI cs U, bkW nm w g y n a b r p q k]) (cons := [(decide (p < 1) = true), (true = true), (true = true), (true = true), (true = true), (true = true), (true = true), (true = true), (true = true)]) zk
    ⟨zdo, rfl, rfl, rfl, rfl, rfl, rfl, rfl, rfl, trivial⟩) zk zt0
theorem cellsFit_no1 (h1 : ¬ p < 1) (h2 : 16 < p)  : Meets cfx 0 95 [lwA nm w g y n a b r p q k] [bkG gs T, bkI cs U] (V.raw (.bool false)) [bkG gs T, bkI cs U] := by
  refine Meets.post (meets_ev cfx_mixed cfx_call zz zb (n := 40) (ans := [Ans.go, zF, zF, zT, zT, zT, zT, zT, zT, zT]) (v := V.raw (.bool false)) (h' := [bkG gs T, bkI cs U, bkW nm w g y n a b r p q k]) (cons := [(decide (p < 1) = false), (false = false), (decide (16 < p) = true), (true = true), (true = true), (true = true), (true = true), (true = true), (true = true)]) zk
    ⟨zdo, rfl, zdo, rfl, rfl, rfl, rfl, rfl, rfl, trivial⟩) zk zt0
theorem cellsFit_no2 (h1 : ¬ p < 1) (h2 : ¬ 16 < p) (h3 : q < 1)  : Meets cfx 0 95 [lwA nm w g y n a b r p q k] [bkG gs T, bkI cs U] (V.raw (.bool false)) [bkG gs T, bkI cs U] := by
  refine Meets.post (meets_ev cfx_mixed cfx_call zz zb (n := 40) (ans := [Ans.go, zF, zF, zF, zF, zT, zT, zT, zT, zT]) (v := V.raw (.bool false)) (h' := [bkG gs T, bkI cs U, bkW nm w g y n a b r p q k]) (cons := [(decide (p < 1) = false), (false = false), (decide (16 < p) = false), (false = false), (decide (q < 1) = true), (true = true), (true = true), (true = true), (true = true)]) zk
    ⟨zdo, rfl, zdo, rfl, zdo, rfl, rfl, rfl, rfl, trivial⟩) zk zt0
theorem cellsFit_no3 (h1 : ¬ p < 1) (h2 : ¬ 16 < p) (h3 : ¬ q < 1) (h4 : 16 < q)  : Meets cfx 0 95 [lwA nm w g y n a b r p q k] [bkG gs T, bkI cs U] (V.raw (.bool false)) [bkG gs T, bkI cs U] := by
  refine Meets.post (meets_ev cfx_mixed cfx_call zz zb (n := 40) (ans := [Ans.go, zF, zF, zF, zF, zF, zF, zT, zT, zT]) (v := V.raw (.bool false)) (h' := [bkG gs T, bkI cs U, bkW nm w g y n a b r p q k]) (cons := [(decide (p < 1) = false), (false = false), (decide (16 < p) = false), (false = false), (decide (q < 1) = false), (false = false), (decide (16 < q) = true), (true = true), (true = true)]) zk
    ⟨zdo, rfl, zdo, rfl, zdo, rfl, zdo, rfl, rfl, trivial⟩) zk zt0
theorem cellsFit_no4 (nm : ByteArray) (gs cs : List Int) (n k : Nat) (T U : Nat) (w g y a b r p q : Int) (h1 : ¬ p < 1) (h2 : ¬ 16 < p) (h3 : ¬ q < 1) (h4 : ¬ 16 < q) (h0 : p * q ≤ 256 ∧ 0 ≤ p * q) (h5 : ¬ (k : Int) = p * q)  : Meets cfx 0 95 [lwA nm w g y n a b r p q k] [bkG gs T, bkI cs U] (V.raw (.bool false)) [bkG gs T, bkI cs U] := by
  refine Meets.post (meets_ev cfx_mixed cfx_call zz zb (n := 40) (ans := [Ans.go, zF, zF, zF, zF, zF, zF, zF, zF, zT]) (v := V.raw (.bool false)) (h' := [bkG gs T, bkI cs U, bkW nm w g y n a b r p q k]) (cons := [(decide (p < 1) = false), (false = false), (decide (16 < p) = false), (false = false), (decide (q < 1) = false), (false = false), (decide (16 < q) = false), (inR IntKind.i64 (p * q)), (false = false), ((!decide ((k : Int) = p * q)) = true)]) zk
    ⟨zdo, rfl, zdo, rfl, zdo, rfl, zdo, inR_i64 zo zo, rfl, zdf, trivial⟩) zk zt0
def M.gridB (cs : List Int) (k : Nat) (p q : Int) : Bool := decide (1 ≤ p) && decide (p ≤ 16) && decide (1 ≤ q) && decide (q ≤ 16) && decide ((k : Int) = p * q) && M.cellsB cs k
theorem cellsFit_all (hz : k * 3 ≤ cs.length) : Meets cfx 0 95 [lwA nm w g y n a b r p q k] [bkG gs T, bkI cs U] (.raw (.bool (M.gridB cs k p q))) [bkG gs T, bkI cs U] := by
  unfold M.gridB
  by_cases h1 : p < 1
  · rw [decide_eq_false (show ¬ 1 ≤ p by omega)]
    exact cellsFit_no0 nm gs cs n k T U w g y a b r p q h1
  by_cases h2 : 16 < p
  · rw [decide_eq_false (show ¬ p ≤ 16 by omega)]
    simp only [Bool.and_false, Bool.false_and]
    exact cellsFit_no1 nm gs cs n k T U w g y a b r p q h1 h2
  by_cases h3 : q < 1
  · rw [decide_eq_false (show ¬ 1 ≤ q by omega)]
    simp only [Bool.and_false, Bool.false_and]
    exact cellsFit_no2 nm gs cs n k T U w g y a b r p q h1 h2 h3
  by_cases h4 : 16 < q
  · rw [decide_eq_false (show ¬ q ≤ 16 by omega)]
    simp only [Bool.and_false, Bool.false_and]
    exact cellsFit_no3 nm gs cs n k T U w g y a b r p q h1 h2 h3 h4
  have h0 : p * q ≤ 256 ∧ 0 ≤ p * q := by
    have a1 : p * q ≤ 16 * 16 := Int.mul_le_mul zo zo zo zo
    have a2 : 0 ≤ p * q := Int.mul_nonneg zo zo
    omega
  by_cases h5 : (k : Int) = p * q
  · rw [decide_eq_true (show 1 ≤ p by omega), decide_eq_true (show p ≤ 16 by omega), decide_eq_true (show 1 ≤ q by omega), decide_eq_true (show q ≤ 16 by omega), decide_eq_true h5]
    simp only [Bool.true_and]
    rcases cf_loop nm gs cs n k T U w g y a b r p q hz zo zo h5 zo with ⟨e1, e2⟩ | ⟨e1, i, e2⟩
    · rw [e1]; exact cellsFit_ok nm gs cs n k T U w g y a b r p q hz (by omega) (by omega) h5 (by omega) e2
    · rw [e1]; exact cellsFit_bad nm gs cs n k T U w g y a b r p q hz (by omega) (by omega) h5 (by omega) i e2
  · rw [decide_eq_false h5]
    simp only [Bool.and_false, Bool.false_and]
    exact cellsFit_no4 nm gs cs n k T U w g y a b r p q h1 h2 h3 h4 h0 h5
end Go.Proofs.Ytmelbcmfahcffaa
end
section
namespace Go.Proofs.Ytmelbcmfahcffaa
open Go Go.RowKit Go.Proofs.Ytmelbcmfahcffaa.E2
theorem lnWires_1 (x y g w : Int) (b : Bool) (hx : M.hoopB x y g w = true) (f0 : b = true) : Ret cfx 97 [.raw (.agg #[.int .i64 x, .int .i64 y, .int .i64 g, .int .i64 w, .bool b])] (V.raw (.agg { toList := [.int .i64 (x - 0), .int .i64 (y - (g.tdiv 2 + w)), .int .i64 w, .int .i64 (x + 0), .int .i64 (y + (g.tdiv 2 + w)), .int .i64 w] })) := by
  obtain ⟨q1, q2, q3, q4, q5⟩ := M.hoop_facts hx
  exact fn_of cfx_mixed cfx_call cfx_base.1 cfx_base.2.1 cfx_base.2.2 (n := 40) (ans := [Ans.go, Ans.go, zT]) (cons := [((2 : Int) ≠ (0 : Int)), (inR IntKind.i64 (g.tdiv 2)), (inR IntKind.i64 (g.tdiv 2 + w)), (b = true), (inR IntKind.i64 (x - 0)), (inR IntKind.i64 (y - (g.tdiv 2 + w))), (inR IntKind.i64 (x + 0)), (inR IntKind.i64 (y + (g.tdiv 2 + w)))]) zk rfl rfl
    ⟨zds, inR_i64 zo zo, inR_i64 zo zo, zdf, inR_i64 zo zo, inR_i64 zo zo, inR_i64 zo zo, inR_i64 zo zo, trivial⟩
theorem lnWires_2 (x y g w : Int) (b : Bool) (hx : M.hoopB x y g w = true) (f0 : b = false) : Ret cfx 97 [.raw (.agg #[.int .i64 x, .int .i64 y, .int .i64 g, .int .i64 w, .bool b])] (V.raw (.agg { toList := [.int .i64 (x - (g.tdiv 2 + w)), .int .i64 (y - 0), .int .i64 w, .int .i64 (x + (g.tdiv 2 + w)), .int .i64 (y + 0), .int .i64 w] })) := by
  obtain ⟨q1, q2, q3, q4, q5⟩ := M.hoop_facts hx
  exact fn_of cfx_mixed cfx_call cfx_base.1 cfx_base.2.1 cfx_base.2.2 (n := 40) (ans := [Ans.go, Ans.go, zF]) (cons := [((2 : Int) ≠ (0 : Int)), (inR IntKind.i64 (g.tdiv 2)), (inR IntKind.i64 (g.tdiv 2 + w)), (b = false), (inR IntKind.i64 (x - (g.tdiv 2 + w))), (inR IntKind.i64 (y - 0)), (inR IntKind.i64 (x + (g.tdiv 2 + w))), (inR IntKind.i64 (y + 0))]) zk rfl rfl
    ⟨zds, inR_i64 zo zo, inR_i64 zo zo, zdf, inR_i64 zo zo, inR_i64 zo zo, inR_i64 zo zo, inR_i64 zo zo, trivial⟩
theorem lnWires (x y g w : Int) (b : Bool) (hx : M.hoopB x y g w = true) : Ret cfx 97 [.raw (.agg #[.int .i64 x, .int .i64 y, .int .i64 g, .int .i64 w, .bool b])] (.raw (.agg #[.int .i64 (M.wA b x (g.tdiv 2 + w)), .int .i64 (M.wA (!b) y (g.tdiv 2 + w)), .int .i64 w, .int .i64 (M.wB b x (g.tdiv 2 + w)), .int .i64 (M.wB (!b) y (g.tdiv 2 + w)), .int .i64 w])) := by
  obtain ⟨q1, q2, q3, q4, q5⟩ := M.hoop_facts hx
  by_cases f0 : b = true
  ·
    have e : (.raw (.agg #[.int .i64 (M.wA b x (g.tdiv 2 + w)), .int .i64 (M.wA (!b) y (g.tdiv 2 + w)), .int .i64 w, .int .i64 (M.wB b x (g.tdiv 2 + w)), .int .i64 (M.wB (!b) y (g.tdiv 2 + w)), .int .i64 w]) : V) = V.raw (.agg { toList := [.int .i64 (x - 0), .int .i64 (y - (g.tdiv 2 + w)), .int .i64 w, .int .i64 (x + 0), .int .i64 (y + (g.tdiv 2 + w)), .int .i64 w] }) := by (simp_all [M.wA, M.wB])
    rw [e]
    exact lnWires_1 x y g w b hx f0
  ·
    replace f0 : b = false := by simpa using f0
    have e : (.raw (.agg #[.int .i64 (M.wA b x (g.tdiv 2 + w)), .int .i64 (M.wA (!b) y (g.tdiv 2 + w)), .int .i64 w, .int .i64 (M.wB b x (g.tdiv 2 + w)), .int .i64 (M.wB (!b) y (g.tdiv 2 + w)), .int .i64 w]) : V) = V.raw (.agg { toList := [.int .i64 (x - (g.tdiv 2 + w)), .int .i64 (y - 0), .int .i64 w, .int .i64 (x + (g.tdiv 2 + w)), .int .i64 (y + 0), .int .i64 w] }) := by (simp_all [M.wA, M.wB])
    rw [e]
    exact lnWires_2 x y g w b hx f0
def po_T (nm : ByteArray) (gs cs : List Int) (n k : Nat) (T U : Nat) (w g y a b r p q : Int) (i : Int) (ps : List Int) (m : Nat) : List V := (catV [lwA nm w g y n a b r p q k, .ptr 2 0, V.raw (Value.slice none 0 0), V.slo 4 m] (anyR 4 10 (catV [.slo 0 n, iV (n : Int), iV i] (anyR 17 18 []))))
def po_H (nm : ByteArray) (gs cs : List Int) (n k : Nat) (T U : Nat) (w g y a b r p q : Int) (i : Int) (ps : List Int) (m : Nat) : Heap := [bkG gs T, bkI cs U, bkW nm w g y n a b r p q k, none, some (.cells (ints ps) 26 (Own.row 3))]
abbrev zq76 (gs : List Int) (i : Int) : List V := [iV (M.wA (nz gs (i.toNat * 5 + 4)) (at' gs (i.toNat * 5)) ((at' gs (i.toNat * 5 + 2)).tdiv 2 + at' gs (i.toNat * 5 + 3))), iV (M.wA (!nz gs (i.toNat * 5 + 4)) (at' gs (i.toNat * 5 + 1)) ((at' gs (i.toNat * 5 + 2)).tdiv 2 + at' gs (i.toNat * 5 + 3))), iV (at' gs (i.toNat * 5 + 3)), iV (M.wB (nz gs (i.toNat * 5 + 4)) (at' gs (i.toNat * 5)) ((at' gs (i.toNat * 5 + 2)).tdiv 2 + at' gs (i.toNat * 5 + 3))), iV (M.wB (!nz gs (i.toNat * 5 + 4)) (at' gs (i.toNat * 5 + 1)) ((at' gs (i.toNat * 5 + 2)).tdiv 2 + at' gs (i.toNat * 5 + 3))), iV (at' gs (i.toNat * 5 + 3))]
abbrev zq191 (gs : List Int) (i : Int) : List V := [iV (at' gs (i.toNat * 5)), iV (at' gs (i.toNat * 5 + 1)), iV (at' gs (i.toNat * 5 + 2)), iV (at' gs (i.toNat * 5 + 3)), V.raw (.bool (nz gs (i.toNat * 5 + 4)))]
theorem po_1 (nm : ByteArray) (gs cs : List Int) (n k : Nat) (T U : Nat) (w g y a b r p q : Int) (hz : n * 5 ≤ gs.length) (hn : n ≤ 20) (i : Int) (ps : List Int) (m : Nat) (hi1 : 0 ≤ i) (hp : ps.length = m * 3) (hm : m ≤ 100) (hg : i < n → M.hoopB (at' gs (i.toNat * 5)) (at' gs (i.toNat * 5 + 1)) (at' gs (i.toNat * 5 + 2)) (at' gs (i.toNat * 5 + 3)) = true) (f0 : i < (n : Int)) : Runs cfx 0 4 none (loopOf cfx.P 53 0) (po_T nm gs cs n k T U w g y a b r p q i ps m) (po_H nm gs cs n k T U w g y a b r p q i ps m) (Ex.normal) (po_T nm gs cs n k T U w g y a b r p q (i + 1) (ps ++ [M.wA (nz gs (i.toNat * 5 + 4)) (at' gs (i.toNat * 5)) ((at' gs (i.toNat * 5 + 2)).tdiv 2 + at' gs (i.toNat * 5 + 3)), M.wA (!nz gs (i.toNat * 5 + 4)) (at' gs (i.toNat * 5 + 1)) ((at' gs (i.toNat * 5 + 2)).tdiv 2 + at' gs (i.toNat * 5 + 3)), at' gs (i.toNat * 5 + 3), M.wB (nz gs (i.toNat * 5 + 4)) (at' gs (i.toNat * 5)) ((at' gs (i.toNat * 5 + 2)).tdiv 2 + at' gs (i.toNat * 5 + 3)), M.wB (!nz gs (i.toNat * 5 + 4)) (at' gs (i.toNat * 5 + 1)) ((at' gs (i.toNat * 5 + 2)).tdiv 2 + at' gs (i.toNat * 5 + 3)), at' gs (i.toNat * 5 + 3)]) (m + 1 + 1)) (po_H nm gs cs n k T U w g y a b r p q (i + 1) (ps ++ [M.wA (nz gs (i.toNat * 5 + 4)) (at' gs (i.toNat * 5)) ((at' gs (i.toNat * 5 + 2)).tdiv 2 + at' gs (i.toNat * 5 + 3)), M.wA (!nz gs (i.toNat * 5 + 4)) (at' gs (i.toNat * 5 + 1)) ((at' gs (i.toNat * 5 + 2)).tdiv 2 + at' gs (i.toNat * 5 + 3)), at' gs (i.toNat * 5 + 3), M.wB (nz gs (i.toNat * 5 + 4)) (at' gs (i.toNat * 5)) ((at' gs (i.toNat * 5 + 2)).tdiv 2 + at' gs (i.toNat * 5 + 3)), M.wB (!nz gs (i.toNat * 5 + 4)) (at' gs (i.toNat * 5 + 1)) ((at' gs (i.toNat * 5 + 2)).tdiv 2 + at' gs (i.toNat * 5 + 3)), at' gs (i.toNat * 5 + 3)]) (m + 1 + 1)) := by
  refine Runs.post (t1 := (catV [lwA nm w g y n a b r p q k, .ptr 2 0, V.raw (Value.slice none 0 0), .slo 8 (m + 1 + 1), .any 4, .ptr 5 0, .ptr 6 0] (anyR 7 7 [.slo 0 n, iV (n : Int), iV (i + 1), V.raw (.bool (decide (i < (n : Int)))), V.ptr 0 (i.toNat * 5), V.raw (.agg { toList := [.int .i64 (at' gs (i.toNat * 5)), .int .i64 (at' gs (i.toNat * 5 + 1)), .int .i64 (at' gs (i.toNat * 5 + 2)), .int .i64 (at' gs (i.toNat * 5 + 3)), .bool (nz gs (i.toNat * 5 + 4))] }), V.raw (.agg { toList := [.int .i64 (at' gs (i.toNat * 5)), .int .i64 (at' gs (i.toNat * 5 + 1)), .int .i64 (at' gs (i.toNat * 5 + 2)), .int .i64 (at' gs (i.toNat * 5 + 3)), .bool (nz gs (i.toNat * 5 + 4))] }), V.raw (.agg { toList := [.int .i64 (M.wA (nz gs (i.toNat * 5 + 4)) (at' gs (i.toNat * 5)) ((at' gs (i.toNat * 5 + 2)).tdiv 2 + at' gs (i.toNat * 5 + 3))), .int .i64 (M.wA (!nz gs (i.toNat * 5 + 4)) (at' gs (i.toNat * 5 + 1)) ((at' gs (i.toNat * 5 + 2)).tdiv 2 + at' gs (i.toNat * 5 + 3))), .int .i64 (at' gs (i.toNat * 5 + 3)), .int .i64 (M.wB (nz gs (i.toNat * 5 + 4)) (at' gs (i.toNat * 5)) ((at' gs (i.toNat * 5 + 2)).tdiv 2 + at' gs (i.toNat * 5 + 3))), .int .i64 (M.wB (!nz gs (i.toNat * 5 + 4)) (at' gs (i.toNat * 5 + 1)) ((at' gs (i.toNat * 5 + 2)).tdiv 2 + at' gs (i.toNat * 5 + 3))), .int .i64 (at' gs (i.toNat * 5 + 3))] }), .slo 4 m, .ptr 6 0, V.raw (.agg { toList := [.int .i64 (M.wA (nz gs (i.toNat * 5 + 4)) (at' gs (i.toNat * 5)) ((at' gs (i.toNat * 5 + 2)).tdiv 2 + at' gs (i.toNat * 5 + 3))), .int .i64 (M.wA (!nz gs (i.toNat * 5 + 4)) (at' gs (i.toNat * 5 + 1)) ((at' gs (i.toNat * 5 + 2)).tdiv 2 + at' gs (i.toNat * 5 + 3))), .int .i64 (at' gs (i.toNat * 5 + 3))] }), .ptr 6 3, V.raw (.agg { toList := [.int .i64 (M.wB (nz gs (i.toNat * 5 + 4)) (at' gs (i.toNat * 5)) ((at' gs (i.toNat * 5 + 2)).tdiv 2 + at' gs (i.toNat * 5 + 3))), .int .i64 (M.wB (!nz gs (i.toNat * 5 + 4)) (at' gs (i.toNat * 5 + 1)) ((at' gs (i.toNat * 5 + 2)).tdiv 2 + at' gs (i.toNat * 5 + 3))), .int .i64 (at' gs (i.toNat * 5 + 3))] }), .slo 7 2, .slo 8 (m + 1 + 1), iV (i + 1), .any 30, .any 31, .any 32, .any 33, .any 34]))) (h1 := [bkG gs T, bkI cs U, bkW nm w g y n a b r p q k, none, none, some (.cells (zq191 gs i) 71 .rw), some (.cells (zq76 gs i) 126 .rw), some (.cells (zq76 gs i) 26 (.row 3)), some (.cells (ints (ps ++ [M.wA (nz gs (i.toNat * 5 + 4)) (at' gs (i.toNat * 5)) ((at' gs (i.toNat * 5 + 2)).tdiv 2 + at' gs (i.toNat * 5 + 3)), M.wA (!nz gs (i.toNat * 5 + 4)) (at' gs (i.toNat * 5 + 1)) ((at' gs (i.toNat * 5 + 2)).tdiv 2 + at' gs (i.toNat * 5 + 3)), at' gs (i.toNat * 5 + 3), M.wB (nz gs (i.toNat * 5 + 4)) (at' gs (i.toNat * 5)) ((at' gs (i.toNat * 5 + 2)).tdiv 2 + at' gs (i.toNat * 5 + 3)), M.wB (!nz gs (i.toNat * 5 + 4)) (at' gs (i.toNat * 5 + 1)) ((at' gs (i.toNat * 5 + 2)).tdiv 2 + at' gs (i.toNat * 5 + 3)), at' gs (i.toNat * 5 + 3)])) 26 (.row 3))]) (body_of cfx_mixed cfx_call zz (rnd := none) (fi := 0) (k := 0) (n := 40) (n0 := 4) (ans := [zT, Ans.val 0 (V.raw (.agg { toList := [.int .i64 (at' gs (i.toNat * 5)), .int .i64 (at' gs (i.toNat * 5 + 1)), .int .i64 (at' gs (i.toNat * 5 + 2)), .int .i64 (at' gs (i.toNat * 5 + 3)), .bool (nz gs (i.toNat * 5 + 4))] })), Ans.ret (V.raw (.agg { toList := [.int .i64 (M.wA (nz gs (i.toNat * 5 + 4)) (at' gs (i.toNat * 5)) ((at' gs (i.toNat * 5 + 2)).tdiv 2 + at' gs (i.toNat * 5 + 3))), .int .i64 (M.wA (!nz gs (i.toNat * 5 + 4)) (at' gs (i.toNat * 5 + 1)) ((at' gs (i.toNat * 5 + 2)).tdiv 2 + at' gs (i.toNat * 5 + 3))), .int .i64 (at' gs (i.toNat * 5 + 3)), .int .i64 (M.wB (nz gs (i.toNat * 5 + 4)) (at' gs (i.toNat * 5)) ((at' gs (i.toNat * 5 + 2)).tdiv 2 + at' gs (i.toNat * 5 + 3))), .int .i64 (M.wB (!nz gs (i.toNat * 5 + 4)) (at' gs (i.toNat * 5 + 1)) ((at' gs (i.toNat * 5 + 2)).tdiv 2 + at' gs (i.toNat * 5 + 3))), .int .i64 (at' gs (i.toNat * 5 + 3))] })), Ans.cells 8 (ints (ps ++ [M.wA (nz gs (i.toNat * 5 + 4)) (at' gs (i.toNat * 5)) ((at' gs (i.toNat * 5 + 2)).tdiv 2 + at' gs (i.toNat * 5 + 3)), M.wA (!nz gs (i.toNat * 5 + 4)) (at' gs (i.toNat * 5 + 1)) ((at' gs (i.toNat * 5 + 2)).tdiv 2 + at' gs (i.toNat * 5 + 3)), at' gs (i.toNat * 5 + 3), M.wB (nz gs (i.toNat * 5 + 4)) (at' gs (i.toNat * 5)) ((at' gs (i.toNat * 5 + 2)).tdiv 2 + at' gs (i.toNat * 5 + 3)), M.wB (!nz gs (i.toNat * 5 + 4)) (at' gs (i.toNat * 5 + 1)) ((at' gs (i.toNat * 5 + 2)).tdiv 2 + at' gs (i.toNat * 5 + 3)), at' gs (i.toNat * 5 + 3)]))]) (cons := [(decide (i < (n : Int)) = true), (0 ≤ i ∧ i < (n : Int)), (loadRow cfx 71 (mix [false, false, false, false, true] gs) (i.toNat * 5) = some (V.raw (.agg { toList := [.int .i64 (at' gs (i.toNat * 5)), .int .i64 (at' gs (i.toNat * 5 + 1)), .int .i64 (at' gs (i.toNat * 5 + 2)), .int .i64 (at' gs (i.toNat * 5 + 3)), .bool (nz gs (i.toNat * 5 + 4))] }))), (Ret cfx 97 (zq251 gs i) (V.raw (.agg { toList := [.int .i64 (M.wA (nz gs (i.toNat * 5 + 4)) (at' gs (i.toNat * 5)) ((at' gs (i.toNat * 5 + 2)).tdiv 2 + at' gs (i.toNat * 5 + 3))), .int .i64 (M.wA (!nz gs (i.toNat * 5 + 4)) (at' gs (i.toNat * 5 + 1)) ((at' gs (i.toNat * 5 + 2)).tdiv 2 + at' gs (i.toNat * 5 + 3))), .int .i64 (at' gs (i.toNat * 5 + 3)), .int .i64 (M.wB (nz gs (i.toNat * 5 + 4)) (at' gs (i.toNat * 5)) ((at' gs (i.toNat * 5 + 2)).tdiv 2 + at' gs (i.toNat * 5 + 3))), .int .i64 (M.wB (!nz gs (i.toNat * 5 + 4)) (at' gs (i.toNat * 5 + 1)) ((at' gs (i.toNat * 5 + 2)).tdiv 2 + at' gs (i.toNat * 5 + 3))), .int .i64 (at' gs (i.toNat * 5 + 3))] }))), (2 ≤ 9223372036854775807), (2 * 3 ≤ List.length ((zq76 gs i) : List V)), (oneCells (List.take (2 * 3) ((zq76 gs i) : List V)) = true), (List.length ((ints ps) : List V) = m * 3), (m + 2 ≤ maxLen ∧ (m + 2) * 24 ≤ 140737488355328), (((ints ps) : List V) ++ (List.take (2 * 3) ((zq76 gs i) : List V)) = (ints (ps ++ [M.wA (nz gs (i.toNat * 5 + 4)) (at' gs (i.toNat * 5)) ((at' gs (i.toNat * 5 + 2)).tdiv 2 + at' gs (i.toNat * 5 + 3)), M.wA (!nz gs (i.toNat * 5 + 4)) (at' gs (i.toNat * 5 + 1)) ((at' gs (i.toNat * 5 + 2)).tdiv 2 + at' gs (i.toNat * 5 + 3)), at' gs (i.toNat * 5 + 3), M.wB (nz gs (i.toNat * 5 + 4)) (at' gs (i.toNat * 5)) ((at' gs (i.toNat * 5 + 2)).tdiv 2 + at' gs (i.toNat * 5 + 3)), M.wB (!nz gs (i.toNat * 5 + 4)) (at' gs (i.toNat * 5 + 1)) ((at' gs (i.toNat * 5 + 2)).tdiv 2 + at' gs (i.toNat * 5 + 3)), at' gs (i.toNat * 5 + 3)]))), (inR IntKind.i64 (i + 1))]) zk
    ⟨zdo, (by omega), (load_mix 5 0 (by kernel_rfl) (by kernel_rfl) (Nat.le_of_ble_eq_true rfl) (by show _ % 5 = 0; omega) (Nat.le_of_ble_eq_true rfl) (by omega)), (lnWires _ _ _ _ _ (hg (by omega))), zds, (by first | omega | (simp only [ints_len, putI_length, List.length_append, List.length_replicate, List.length_take, List.length_drop, List.length_cons, List.length_nil]; omega) | (simp only [ints_len, putI_length, List.length_append, List.length_replicate, List.length_take, List.length_drop, List.length_cons, List.length_nil]; done)), (by first | exact ones_take _ _ | rfl), (by first | omega | (simp only [ints_len, putI_length, List.length_append, List.length_replicate, List.length_take, List.length_drop, List.length_cons, List.length_nil]; omega) | (simp only [ints_len, putI_length, List.length_append, List.length_replicate, List.length_take, List.length_drop, List.length_cons, List.length_nil]; done)), (by unfold maxLen; constructor <;> omega), (by first | rfl | exact app_lit _ _ rfl | exact app_row _ _ _ | exact row_row0 _ _ | exact app_row0 _ _), inR_i64 (by omega) (by omega), trivial⟩ (Nat.le_of_ble_eq_true rfl) (Nat.le_of_ble_eq_true rfl) noRnd (noRanges (by kernel_rfl))) (fun RT RH => reshape2 (lim := 0) 4 cfx_G rfl [some 8] (by kernel_rfl) (by kernel_rfl) (by exact (ents_raw (mix_all _ _) rfl rfl (ents_raw (ints_all _) rfl rfl (ents_say rfl rfl rfl rfl (ents_none (ents_raw (ints_all _) rfl rfl (ents_nil))))))) RT RH)
def po_T2 (nm : ByteArray) (gs cs : List Int) (n k : Nat) (T U : Nat) (w g y a b r p q : Int) (i : Int) (ps : List Int) (m : Nat) : List V := (catV [lwA nm w g y n a b r p q k, .ptr 2 0, V.raw (Value.slice none 0 0), .slo 4 m] (anyR 4 10 (catV [.slo 0 n, iV (n : Int), iV i] (anyR 17 18 []))))
def po_H2 (nm : ByteArray) (gs cs : List Int) (n k : Nat) (T U : Nat) (w g y a b r p q : Int) (i : Int) (ps : List Int) (m : Nat) : Heap := [bkG gs T, bkI cs U, bkW nm w g y n a b r p q k, none, some (.cells (ints ps) 26 (.row 3))]
theorem po_2 (nm : ByteArray) (gs cs : List Int) (n k : Nat) (T U : Nat) (w g y a b r p q : Int) (hz : n * 5 ≤ gs.length) (hn : n ≤ 20) (i : Int) (ps : List Int) (m : Nat) (hi1 : 0 ≤ i) (hp : ps.length = m * 3) (hm : m ≤ 100) (hg : i < n → M.hoopB (at' gs (i.toNat * 5)) (at' gs (i.toNat * 5 + 1)) (at' gs (i.toNat * 5 + 2)) (at' gs (i.toNat * 5 + 3)) = true) (f0 : ¬i < (n : Int)) : Runs cfx 0 4 none (loopOf cfx.P 53 0) (po_T nm gs cs n k T U w g y a b r p q i ps m) (po_H nm gs cs n k T U w g y a b r p q i ps m) (Ex.exit 0) (po_T2 nm gs cs n k T U w g y a b r p q i ps m) (po_H2 nm gs cs n k T U w g y a b r p q i ps m) := by
  refine Runs.post (t1 := (catV [lwA nm w g y n a b r p q k, .ptr 2 0, V.raw (Value.slice none 0 0), .slo 4 m] (anyR 4 10 (catV [.slo 0 n, iV (n : Int), iV i, V.raw (.bool (decide (i < (n : Int))))] (anyR 18 17 []))))) (h1 := [bkG gs T, bkI cs U, bkW nm w g y n a b r p q k, none, some (.cells (ints ps) 26 (.row 3))]) (body_of cfx_mixed cfx_call zz (rnd := none) (fi := 0) (k := 0) (n := 40) (n0 := 4) (ans := [zF]) (cons := [(decide (i < (n : Int)) = false)]) zk
    ⟨zdo, trivial⟩ zb zb noRnd (noRanges zk)) (fun RT RH => reshape2 (lim := 0) 4 cfx_G rfl [some 4] zk zk (by exact (ents_raw (mix_all _ _) rfl rfl (ents_raw (ints_all _) rfl rfl (ents_say rfl rfl rfl rfl (ents_none (ents_raw (ints_all _) rfl rfl (ents_nil))))))) RT RH)
def rpo_T (nm : ByteArray) (gs cs : List Int) (n k : Nat) (T U : Nat) (w g y a b r p q : Int) (i : Int) (ps : List Int) (m : Nat) : List V := (catV [lwA nm w g y n a b r p q k, .ptr 2 0, V.raw (Value.slice none 0 0), V.slo 3 m, iV i] (anyR 5 68 []))
def rpo_H (nm : ByteArray) (gs cs : List Int) (n k : Nat) (T U : Nat) (w g y a b r p q : Int) (i : Int) (ps : List Int) (m : Nat) : Heap := [bkG gs T, bkI cs U, bkW nm w g y n a b r p q k, some (.cells (ints ps) 26 (Own.row 3))]
abbrev zq122 (gs : List Int) (i : Int) : List V := [iV (at' gs (i.toNat * 5)), iV (at' gs (i.toNat * 5 + 1) - ((at' gs (i.toNat * 5 + 2)).tdiv 2 + at' gs (i.toNat * 5 + 3))), iV (at' gs (i.toNat * 5 + 3)), iV (at' gs (i.toNat * 5)), iV (at' gs (i.toNat * 5 + 1) + ((at' gs (i.toNat * 5 + 2)).tdiv 2 + at' gs (i.toNat * 5 + 3))), iV (at' gs (i.toNat * 5 + 3))]
theorem rpo_1 (nm : ByteArray) (gs cs : List Int) (n k : Nat) (T U : Nat) (w g y a b r p q : Int) (hz : n * 5 ≤ gs.length) (hn : n ≤ 20) (i : Int) (ps : List Int) (m : Nat) (hi1 : 0 ≤ i) (hp : ps.length = m * 3) (hm : m ≤ 100) (hg : i < n → M.hoopB (at' gs (i.toNat * 5)) (at' gs (i.toNat * 5 + 1)) (at' gs (i.toNat * 5 + 2)) (at' gs (i.toNat * 5 + 3)) = true) (f0 : i < (n : Int)) (f1 : nz gs (i.toNat * 5 + 4) = true) : Runs cfx 0 3 none (loopOf cfx.P 54 0) (rpo_T nm gs cs n k T U w g y a b r p q i ps m) (rpo_H nm gs cs n k T U w g y a b r p q i ps m) (Ex.normal) (rpo_T nm gs cs n k T U w g y a b r p q (i + 1) (ps ++ [at' gs (i.toNat * 5), at' gs (i.toNat * 5 + 1) - ((at' gs (i.toNat * 5 + 2)).tdiv 2 + at' gs (i.toNat * 5 + 3)), at' gs (i.toNat * 5 + 3), at' gs (i.toNat * 5), at' gs (i.toNat * 5 + 1) + ((at' gs (i.toNat * 5 + 2)).tdiv 2 + at' gs (i.toNat * 5 + 3)), at' gs (i.toNat * 5 + 3)]) (m + 1 + 1)) (rpo_H nm gs cs n k T U w g y a b r p q (i + 1) (ps ++ [at' gs (i.toNat * 5), at' gs (i.toNat * 5 + 1) - ((at' gs (i.toNat * 5 + 2)).tdiv 2 + at' gs (i.toNat * 5 + 3)), at' gs (i.toNat * 5 + 3), at' gs (i.toNat * 5), at' gs (i.toNat * 5 + 1) + ((at' gs (i.toNat * 5 + 2)).tdiv 2 + at' gs (i.toNat * 5 + 3)), at' gs (i.toNat * 5 + 3)]) (m + 1 + 1)) := by
  have hq := fun h => M.hoop_facts (hg h)
  refine Runs.post (t1 := [lwA nm w g y n a b r p q k, .ptr 2 0, V.raw (Value.slice none 0 0), .slo 8 (m + 1 + 1), iV (i + 1), .ptr 4 0, iV ((at' gs (i.toNat * 5 + 2)).tdiv 2 + at' gs (i.toNat * 5 + 3)), .ptr 5 0, .ptr 6 0, iV i, .ptr 2 4, .slo 0 n, iV (n : Int), V.raw (.bool (decide (i < (n : Int)))), iV i, iV (i + 1), .ptr 2 4, .slo 0 n, iV i, V.ptr 0 (i.toNat * 5), V.raw (.agg { toList := [.int .i64 (at' gs (i.toNat * 5)), .int .i64 (at' gs (i.toNat * 5 + 1)), .int .i64 (at' gs (i.toNat * 5 + 2)), .int .i64 (at' gs (i.toNat * 5 + 3)), .bool (nz gs (i.toNat * 5 + 4))] }), .ptr 4 2, iV (at' gs (i.toNat * 5 + 2)), iV ((at' gs (i.toNat * 5 + 2)).tdiv 2), .ptr 4 3, iV (at' gs (i.toNat * 5 + 3)), iV ((at' gs (i.toNat * 5 + 2)).tdiv 2 + at' gs (i.toNat * 5 + 3)), .ptr 4 0, iV (at' gs (i.toNat * 5)), iV ((at' gs (i.toNat * 5 + 2)).tdiv 2 + at' gs (i.toNat * 5 + 3)), iV (at' gs (i.toNat * 5) - ((at' gs (i.toNat * 5 + 2)).tdiv 2 + at' gs (i.toNat * 5 + 3))), .ptr 4 1, iV (at' gs (i.toNat * 5 + 1)), V.raw (.agg { toList := [.int .i64 (at' gs (i.toNat * 5) - ((at' gs (i.toNat * 5 + 2)).tdiv 2 + at' gs (i.toNat * 5 + 3))), .int .i64 (at' gs (i.toNat * 5 + 1))] }), .ptr 4 0, iV (at' gs (i.toNat * 5)), iV ((at' gs (i.toNat * 5 + 2)).tdiv 2 + at' gs (i.toNat * 5 + 3)), iV (at' gs (i.toNat * 5) + ((at' gs (i.toNat * 5 + 2)).tdiv 2 + at' gs (i.toNat * 5 + 3))), .ptr 4 1, iV (at' gs (i.toNat * 5 + 1)), V.raw (.agg { toList := [.int .i64 (at' gs (i.toNat * 5) + ((at' gs (i.toNat * 5 + 2)).tdiv 2 + at' gs (i.toNat * 5 + 3))), .int .i64 (at' gs (i.toNat * 5 + 1))] }), .ptr 4 4, V.raw (.bool (nz gs (i.toNat * 5 + 4))), .ptr 4 0, iV (at' gs (i.toNat * 5)), .ptr 4 1, iV (at' gs (i.toNat * 5 + 1)), iV ((at' gs (i.toNat * 5 + 2)).tdiv 2 + at' gs (i.toNat * 5 + 3)), iV (at' gs (i.toNat * 5 + 1) - ((at' gs (i.toNat * 5 + 2)).tdiv 2 + at' gs (i.toNat * 5 + 3))), V.raw (.agg { toList := [.int .i64 (at' gs (i.toNat * 5)), .int .i64 (at' gs (i.toNat * 5 + 1) - ((at' gs (i.toNat * 5 + 2)).tdiv 2 + at' gs (i.toNat * 5 + 3)))] }), .ptr 4 0, iV (at' gs (i.toNat * 5)), .ptr 4 1, iV (at' gs (i.toNat * 5 + 1)), iV ((at' gs (i.toNat * 5 + 2)).tdiv 2 + at' gs (i.toNat * 5 + 3)), iV (at' gs (i.toNat * 5 + 1) + ((at' gs (i.toNat * 5 + 2)).tdiv 2 + at' gs (i.toNat * 5 + 3))), V.raw (.agg { toList := [.int .i64 (at' gs (i.toNat * 5)), .int .i64 (at' gs (i.toNat * 5 + 1) + ((at' gs (i.toNat * 5 + 2)).tdiv 2 + at' gs (i.toNat * 5 + 3)))] }), .slo 3 m, V.raw (.agg { toList := [.int .i64 (at' gs (i.toNat * 5)), .int .i64 (at' gs (i.toNat * 5 + 1) - ((at' gs (i.toNat * 5 + 2)).tdiv 2 + at' gs (i.toNat * 5 + 3)))] }), .ptr 4 3, iV (at' gs (i.toNat * 5 + 3)), V.raw (.agg { toList := [.int .i64 (at' gs (i.toNat * 5)), .int .i64 (at' gs (i.toNat * 5 + 1) - ((at' gs (i.toNat * 5 + 2)).tdiv 2 + at' gs (i.toNat * 5 + 3))), .int .i64 (at' gs (i.toNat * 5 + 3))] }), V.raw (.agg { toList := [.int .i64 (at' gs (i.toNat * 5)), .int .i64 (at' gs (i.toNat * 5 + 1) + ((at' gs (i.toNat * 5 + 2)).tdiv 2 + at' gs (i.toNat * 5 + 3)))] }), .ptr 4 3, iV (at' gs (i.toNat * 5 + 3)), V.raw (.agg { toList := [.int .i64 (at' gs (i.toNat * 5)), .int .i64 (at' gs (i.toNat * 5 + 1) + ((at' gs (i.toNat * 5 + 2)).tdiv 2 + at' gs (i.toNat * 5 + 3))), .int .i64 (at' gs (i.toNat * 5 + 3))] }), .slo 7 2, .slo 8 (m + 1 + 1), .any 68, .any 69, .any 70, .any 71, .any 72]) (h1 := [bkG gs T, bkI cs U, bkW nm w g y n a b r p q k, none, some (.cells (zq191 gs i) 71 .rw), some (.cells [iV (at' gs (i.toNat * 5)), iV (at' gs (i.toNat * 5 + 1) - ((at' gs (i.toNat * 5 + 2)).tdiv 2 + at' gs (i.toNat * 5 + 3)))] 24 .rw), some (.cells [iV (at' gs (i.toNat * 5)), iV (at' gs (i.toNat * 5 + 1) + ((at' gs (i.toNat * 5 + 2)).tdiv 2 + at' gs (i.toNat * 5 + 3)))] 24 .rw), some (.cells (zq122 gs i) 26 (.row 3)), some (.cells (ints (ps ++ [at' gs (i.toNat * 5), at' gs (i.toNat * 5 + 1) - ((at' gs (i.toNat * 5 + 2)).tdiv 2 + at' gs (i.toNat * 5 + 3)), at' gs (i.toNat * 5 + 3), at' gs (i.toNat * 5), at' gs (i.toNat * 5 + 1) + ((at' gs (i.toNat * 5 + 2)).tdiv 2 + at' gs (i.toNat * 5 + 3)), at' gs (i.toNat * 5 + 3)])) 26 (.row 3))]) (body_of cfx_mixed cfx_call zz (rnd := none) (fi := 0) (k := 0) (n := 40) (n0 := 3) (ans := [zT, Ans.val 0 (V.raw (.agg { toList := [.int .i64 (at' gs (i.toNat * 5)), .int .i64 (at' gs (i.toNat * 5 + 1)), .int .i64 (at' gs (i.toNat * 5 + 2)), .int .i64 (at' gs (i.toNat * 5 + 3)), .bool (nz gs (i.toNat * 5 + 4))] })), Ans.olds [(17, 12), (16, 10)], zT, Ans.olds [(15, 12), (14, 10)], Ans.cells 8 (ints (ps ++ [at' gs (i.toNat * 5), at' gs (i.toNat * 5 + 1) - ((at' gs (i.toNat * 5 + 2)).tdiv 2 + at' gs (i.toNat * 5 + 3)), at' gs (i.toNat * 5 + 3), at' gs (i.toNat * 5), at' gs (i.toNat * 5 + 1) + ((at' gs (i.toNat * 5 + 2)).tdiv 2 + at' gs (i.toNat * 5 + 3)), at' gs (i.toNat * 5 + 3)]))]) (cons := [(decide (i < (n : Int)) = true), (0 ≤ i ∧ i < (n : Int)), (loadRow cfx 71 (mix [false, false, false, false, true] gs) (i.toNat * 5) = some (V.raw (.agg { toList := [.int .i64 (at' gs (i.toNat * 5)), .int .i64 (at' gs (i.toNat * 5 + 1)), .int .i64 (at' gs (i.toNat * 5 + 2)), .int .i64 (at' gs (i.toNat * 5 + 3)), .bool (nz gs (i.toNat * 5 + 4))] }))), ((2 : Int) ≠ (0 : Int)), (inR IntKind.i64 ((at' gs (i.toNat * 5 + 2)).tdiv 2)), (inR IntKind.i64 ((at' gs (i.toNat * 5 + 2)).tdiv 2 + at' gs (i.toNat * 5 + 3))), (inR IntKind.i64 (at' gs (i.toNat * 5) - ((at' gs (i.toNat * 5 + 2)).tdiv 2 + at' gs (i.toNat * 5 + 3)))), (inR IntKind.i64 (at' gs (i.toNat * 5) + ((at' gs (i.toNat * 5 + 2)).tdiv 2 + at' gs (i.toNat * 5 + 3)))), (nz gs (i.toNat * 5 + 4) = true), (inR IntKind.i64 (at' gs (i.toNat * 5 + 1) - ((at' gs (i.toNat * 5 + 2)).tdiv 2 + at' gs (i.toNat * 5 + 3)))), (inR IntKind.i64 (at' gs (i.toNat * 5 + 1) + ((at' gs (i.toNat * 5 + 2)).tdiv 2 + at' gs (i.toNat * 5 + 3)))), (2 ≤ 9223372036854775807), (2 * 3 ≤ List.length ((zq122 gs i) : List V)), (oneCells (List.take (2 * 3) ((zq122 gs i) : List V)) = true), (List.length ((ints ps) : List V) = m * 3), (m + 2 ≤ maxLen ∧ (m + 2) * 24 ≤ 140737488355328), (((ints ps) : List V) ++ (List.take (2 * 3) ((zq122 gs i) : List V)) = (ints (ps ++ [at' gs (i.toNat * 5), at' gs (i.toNat * 5 + 1) - ((at' gs (i.toNat * 5 + 2)).tdiv 2 + at' gs (i.toNat * 5 + 3)), at' gs (i.toNat * 5 + 3), at' gs (i.toNat * 5), at' gs (i.toNat * 5 + 1) + ((at' gs (i.toNat * 5 + 2)).tdiv 2 + at' gs (i.toNat * 5 + 3)), at' gs (i.toNat * 5 + 3)]))), (inR IntKind.i64 (i + 1))]) zk
    ⟨zdo, (by omega), (load_mix 5 0 (by kernel_rfl) (by kernel_rfl) (Nat.le_of_ble_eq_true rfl) (by show _ % 5 = 0; omega) (Nat.le_of_ble_eq_true rfl) (by omega)), zds, inR_i64 (by omega) (by omega), inR_i64 (by omega) (by omega), inR_i64 (by omega) (by omega), inR_i64 (by omega) (by omega), zdf, inR_i64 (by omega) (by omega), inR_i64 (by omega) (by omega), zds, (by first | omega | (simp only [ints_len, putI_length, List.length_append, List.length_replicate, List.length_take, List.length_drop, List.length_cons, List.length_nil]; omega) | (simp only [ints_len, putI_length, List.length_append, List.length_replicate, List.length_take, List.length_drop, List.length_cons, List.length_nil]; done)), (by first | exact ones_take _ _ | rfl), (by first | omega | (simp only [ints_len, putI_length, List.length_append, List.length_replicate, List.length_take, List.length_drop, List.length_cons, List.length_nil]; omega) | (simp only [ints_len, putI_length, List.length_append, List.length_replicate, List.length_take, List.length_drop, List.length_cons, List.length_nil]; done)), (by unfold maxLen; constructor <;> omega), (by first | rfl | exact app_lit _ _ rfl | exact app_row _ _ _ | exact row_row0 _ _ | exact app_row0 _ _), inR_i64 (by omega) (by omega), trivial⟩ (Nat.le_of_ble_eq_true rfl) (Nat.le_of_ble_eq_true rfl) noRnd (noRanges (by kernel_rfl))) (fun RT RH => reshape2 (lim := 0) 3 cfx_G rfl [some 8] (by kernel_rfl) (by kernel_rfl) (by exact (ents_raw (mix_all _ _) rfl rfl (ents_raw (ints_all _) rfl rfl (ents_say rfl rfl rfl rfl (ents_raw (ints_all _) rfl rfl (ents_nil)))))) RT RH)
abbrev zq123 (gs : List Int) (i : Int) : List V := [iV (at' gs (i.toNat * 5) - ((at' gs (i.toNat * 5 + 2)).tdiv 2 + at' gs (i.toNat * 5 + 3))), iV (at' gs (i.toNat * 5 + 1)), iV (at' gs (i.toNat * 5 + 3)), iV (at' gs (i.toNat * 5) + ((at' gs (i.toNat * 5 + 2)).tdiv 2 + at' gs (i.toNat * 5 + 3))), iV (at' gs (i.toNat * 5 + 1)), iV (at' gs (i.toNat * 5 + 3))]
theorem rpo_2 (nm : ByteArray) (gs cs : List Int) (n k : Nat) (T U : Nat) (w g y a b r p q : Int) (hz : n * 5 ≤ gs.length) (hn : n ≤ 20) (i : Int) (ps : List Int) (m : Nat) (hi1 : 0 ≤ i) (hp : ps.length = m * 3) (hm : m ≤ 100) (hg : i < n → M.hoopB (at' gs (i.toNat * 5)) (at' gs (i.toNat * 5 + 1)) (at' gs (i.toNat * 5 + 2)) (at' gs (i.toNat * 5 + 3)) = true) (f0 : i < (n : Int)) (f1 : nz gs (i.toNat * 5 + 4) = false) : Runs cfx 0 3 none (loopOf cfx.P 54 0) (rpo_T nm gs cs n k T U w g y a b r p q i ps m) (rpo_H nm gs cs n k T U w g y a b r p q i ps m) (Ex.normal) (rpo_T nm gs cs n k T U w g y a b r p q (i + 1) (ps ++ [at' gs (i.toNat * 5) - ((at' gs (i.toNat * 5 + 2)).tdiv 2 + at' gs (i.toNat * 5 + 3)), at' gs (i.toNat * 5 + 1), at' gs (i.toNat * 5 + 3), at' gs (i.toNat * 5) + ((at' gs (i.toNat * 5 + 2)).tdiv 2 + at' gs (i.toNat * 5 + 3)), at' gs (i.toNat * 5 + 1), at' gs (i.toNat * 5 + 3)]) (m + 1 + 1)) (rpo_H nm gs cs n k T U w g y a b r p q (i + 1) (ps ++ [at' gs (i.toNat * 5) - ((at' gs (i.toNat * 5 + 2)).tdiv 2 + at' gs (i.toNat * 5 + 3)), at' gs (i.toNat * 5 + 1), at' gs (i.toNat * 5 + 3), at' gs (i.toNat * 5) + ((at' gs (i.toNat * 5 + 2)).tdiv 2 + at' gs (i.toNat * 5 + 3)), at' gs (i.toNat * 5 + 1), at' gs (i.toNat * 5 + 3)]) (m + 1 + 1)) := by
  have hq := fun h => M.hoop_facts (hg h)
  refine Runs.post (t1 := (catV [lwA nm w g y n a b r p q k, .ptr 2 0, V.raw (Value.slice none 0 0), .slo 8 (m + 1 + 1), iV (i + 1), .ptr 4 0, iV ((at' gs (i.toNat * 5 + 2)).tdiv 2 + at' gs (i.toNat * 5 + 3)), .ptr 5 0, .ptr 6 0, iV i, .ptr 2 4, .slo 0 n, iV (n : Int), V.raw (.bool (decide (i < (n : Int)))), iV i, iV (i + 1), .ptr 2 4, .slo 0 n, iV i, V.ptr 0 (i.toNat * 5), V.raw (.agg { toList := [.int .i64 (at' gs (i.toNat * 5)), .int .i64 (at' gs (i.toNat * 5 + 1)), .int .i64 (at' gs (i.toNat * 5 + 2)), .int .i64 (at' gs (i.toNat * 5 + 3)), .bool (nz gs (i.toNat * 5 + 4))] }), .ptr 4 2, iV (at' gs (i.toNat * 5 + 2)), iV ((at' gs (i.toNat * 5 + 2)).tdiv 2), .ptr 4 3, iV (at' gs (i.toNat * 5 + 3)), iV ((at' gs (i.toNat * 5 + 2)).tdiv 2 + at' gs (i.toNat * 5 + 3)), .ptr 4 0, iV (at' gs (i.toNat * 5)), iV ((at' gs (i.toNat * 5 + 2)).tdiv 2 + at' gs (i.toNat * 5 + 3)), iV (at' gs (i.toNat * 5) - ((at' gs (i.toNat * 5 + 2)).tdiv 2 + at' gs (i.toNat * 5 + 3))), .ptr 4 1, iV (at' gs (i.toNat * 5 + 1)), V.raw (.agg { toList := [.int .i64 (at' gs (i.toNat * 5) - ((at' gs (i.toNat * 5 + 2)).tdiv 2 + at' gs (i.toNat * 5 + 3))), .int .i64 (at' gs (i.toNat * 5 + 1))] }), .ptr 4 0, iV (at' gs (i.toNat * 5)), iV ((at' gs (i.toNat * 5 + 2)).tdiv 2 + at' gs (i.toNat * 5 + 3)), iV (at' gs (i.toNat * 5) + ((at' gs (i.toNat * 5 + 2)).tdiv 2 + at' gs (i.toNat * 5 + 3))), .ptr 4 1, iV (at' gs (i.toNat * 5 + 1)), V.raw (.agg { toList := [.int .i64 (at' gs (i.toNat * 5) + ((at' gs (i.toNat * 5 + 2)).tdiv 2 + at' gs (i.toNat * 5 + 3))), .int .i64 (at' gs (i.toNat * 5 + 1))] }), .ptr 4 4, V.raw (.bool (nz gs (i.toNat * 5 + 4)))] (anyR 43 14 [.slo 3 m, V.raw (.agg { toList := [.int .i64 (at' gs (i.toNat * 5) - ((at' gs (i.toNat * 5 + 2)).tdiv 2 + at' gs (i.toNat * 5 + 3))), .int .i64 (at' gs (i.toNat * 5 + 1))] }), .ptr 4 3, iV (at' gs (i.toNat * 5 + 3)), V.raw (.agg { toList := [.int .i64 (at' gs (i.toNat * 5) - ((at' gs (i.toNat * 5 + 2)).tdiv 2 + at' gs (i.toNat * 5 + 3))), .int .i64 (at' gs (i.toNat * 5 + 1)), .int .i64 (at' gs (i.toNat * 5 + 3))] }), V.raw (.agg { toList := [.int .i64 (at' gs (i.toNat * 5) + ((at' gs (i.toNat * 5 + 2)).tdiv 2 + at' gs (i.toNat * 5 + 3))), .int .i64 (at' gs (i.toNat * 5 + 1))] }), .ptr 4 3, iV (at' gs (i.toNat * 5 + 3)), V.raw (.agg { toList := [.int .i64 (at' gs (i.toNat * 5) + ((at' gs (i.toNat * 5 + 2)).tdiv 2 + at' gs (i.toNat * 5 + 3))), .int .i64 (at' gs (i.toNat * 5 + 1)), .int .i64 (at' gs (i.toNat * 5 + 3))] }), .slo 7 2, .slo 8 (m + 1 + 1), .any 68, .any 69, .any 70, .any 71, .any 72]))) (h1 := [bkG gs T, bkI cs U, bkW nm w g y n a b r p q k, none, some (.cells (zq191 gs i) 71 .rw), some (.cells [iV (at' gs (i.toNat * 5) - ((at' gs (i.toNat * 5 + 2)).tdiv 2 + at' gs (i.toNat * 5 + 3))), iV (at' gs (i.toNat * 5 + 1))] 24 .rw), some (.cells [iV (at' gs (i.toNat * 5) + ((at' gs (i.toNat * 5 + 2)).tdiv 2 + at' gs (i.toNat * 5 + 3))), iV (at' gs (i.toNat * 5 + 1))] 24 .rw), some (.cells (zq123 gs i) 26 (.row 3)), some (.cells (ints (ps ++ [at' gs (i.toNat * 5) - ((at' gs (i.toNat * 5 + 2)).tdiv 2 + at' gs (i.toNat * 5 + 3)), at' gs (i.toNat * 5 + 1), at' gs (i.toNat * 5 + 3), at' gs (i.toNat * 5) + ((at' gs (i.toNat * 5 + 2)).tdiv 2 + at' gs (i.toNat * 5 + 3)), at' gs (i.toNat * 5 + 1), at' gs (i.toNat * 5 + 3)])) 26 (.row 3))]) (body_of cfx_mixed cfx_call zz (rnd := none) (fi := 0) (k := 0) (n := 40) (n0 := 3) (ans := [zT, Ans.val 0 (V.raw (.agg { toList := [.int .i64 (at' gs (i.toNat * 5)), .int .i64 (at' gs (i.toNat * 5 + 1)), .int .i64 (at' gs (i.toNat * 5 + 2)), .int .i64 (at' gs (i.toNat * 5 + 3)), .bool (nz gs (i.toNat * 5 + 4))] })), Ans.olds [(17, 12), (16, 10)], zF, Ans.cells 8 (ints (ps ++ [at' gs (i.toNat * 5) - ((at' gs (i.toNat * 5 + 2)).tdiv 2 + at' gs (i.toNat * 5 + 3)), at' gs (i.toNat * 5 + 1), at' gs (i.toNat * 5 + 3), at' gs (i.toNat * 5) + ((at' gs (i.toNat * 5 + 2)).tdiv 2 + at' gs (i.toNat * 5 + 3)), at' gs (i.toNat * 5 + 1), at' gs (i.toNat * 5 + 3)]))]) (cons := [(decide (i < (n : Int)) = true), (0 ≤ i ∧ i < (n : Int)), (loadRow cfx 71 (mix [false, false, false, false, true] gs) (i.toNat * 5) = some (V.raw (.agg { toList := [.int .i64 (at' gs (i.toNat * 5)), .int .i64 (at' gs (i.toNat * 5 + 1)), .int .i64 (at' gs (i.toNat * 5 + 2)), .int .i64 (at' gs (i.toNat * 5 + 3)), .bool (nz gs (i.toNat * 5 + 4))] }))), ((2 : Int) ≠ (0 : Int)), (inR IntKind.i64 ((at' gs (i.toNat * 5 + 2)).tdiv 2)), (inR IntKind.i64 ((at' gs (i.toNat * 5 + 2)).tdiv 2 + at' gs (i.toNat * 5 + 3))), (inR IntKind.i64 (at' gs (i.toNat * 5) - ((at' gs (i.toNat * 5 + 2)).tdiv 2 + at' gs (i.toNat * 5 + 3)))), (inR IntKind.i64 (at' gs (i.toNat * 5) + ((at' gs (i.toNat * 5 + 2)).tdiv 2 + at' gs (i.toNat * 5 + 3)))), (nz gs (i.toNat * 5 + 4) = false), (2 ≤ 9223372036854775807), (2 * 3 ≤ List.length ((zq123 gs i) : List V)), (oneCells (List.take (2 * 3) ((zq123 gs i) : List V)) = true), (List.length ((ints ps) : List V) = m * 3), (m + 2 ≤ maxLen ∧ (m + 2) * 24 ≤ 140737488355328), (((ints ps) : List V) ++ (List.take (2 * 3) ((zq123 gs i) : List V)) = (ints (ps ++ [at' gs (i.toNat * 5) - ((at' gs (i.toNat * 5 + 2)).tdiv 2 + at' gs (i.toNat * 5 + 3)), at' gs (i.toNat * 5 + 1), at' gs (i.toNat * 5 + 3), at' gs (i.toNat * 5) + ((at' gs (i.toNat * 5 + 2)).tdiv 2 + at' gs (i.toNat * 5 + 3)), at' gs (i.toNat * 5 + 1), at' gs (i.toNat * 5 + 3)]))), (inR IntKind.i64 (i + 1))]) zk
    ⟨zdo, (by omega), (load_mix 5 0 (by kernel_rfl) (by kernel_rfl) (Nat.le_of_ble_eq_true rfl) (by show _ % 5 = 0; omega) (Nat.le_of_ble_eq_true rfl) (by omega)), zds, inR_i64 (by omega) (by omega), inR_i64 (by omega) (by omega), inR_i64 (by omega) (by omega), inR_i64 (by omega) (by omega), zdf, zds, (by first | omega | (simp only [ints_len, putI_length, List.length_append, List.length_replicate, List.length_take, List.length_drop, List.length_cons, List.length_nil]; omega) | (simp only [ints_len, putI_length, List.length_append, List.length_replicate, List.length_take, List.length_drop, List.length_cons, List.length_nil]; done)), (by first | exact ones_take _ _ | rfl), (by first | omega | (simp only [ints_len, putI_length, List.length_append, List.length_replicate, List.length_take, List.length_drop, List.length_cons, List.length_nil]; omega) | (simp only [ints_len, putI_length, List.length_append, List.length_replicate, List.length_take, List.length_drop, List.length_cons, List.length_nil]; done)), (by unfold maxLen; constructor <;> omega), (by first | rfl | exact app_lit _ _ rfl | exact app_row _ _ _ | exact row_row0 _ _ | exact app_row0 _ _), inR_i64 (by omega) (by omega), trivial⟩ (Nat.le_of_ble_eq_true rfl) (Nat.le_of_ble_eq_true rfl) noRnd (noRanges (by kernel_rfl))) (fun RT RH => reshape2 (lim := 0) 3 cfx_G rfl [some 8] (by kernel_rfl) (by kernel_rfl) (by exact (ents_raw (mix_all _ _) rfl rfl (ents_raw (ints_all _) rfl rfl (ents_say rfl rfl rfl rfl (ents_raw (ints_all _) rfl rfl (ents_nil)))))) RT RH)
def rpo_T3 (nm : ByteArray) (gs cs : List Int) (n k : Nat) (T U : Nat) (w g y a b r p q : Int) (i : Int) (ps : List Int) (m : Nat) : List V := (catV [lwA nm w g y n a b r p q k, .ptr 2 0, V.raw (Value.slice none 0 0), .slo 3 m, iV i] (anyR 5 68 []))
def rpo_H3 (nm : ByteArray) (gs cs : List Int) (n k : Nat) (T U : Nat) (w g y a b r p q : Int) (i : Int) (ps : List Int) (m : Nat) : Heap := [bkG gs T, bkI cs U, bkW nm w g y n a b r p q k, some (.cells (ints ps) 26 (.row 3))]
theorem rpo_3 (nm : ByteArray) (gs cs : List Int) (n k : Nat) (T U : Nat) (w g y a b r p q : Int) (hz : n * 5 ≤ gs.length) (hn : n ≤ 20) (i : Int) (ps : List Int) (m : Nat) (hi1 : 0 ≤ i) (hp : ps.length = m * 3) (hm : m ≤ 100) (hg : i < n → M.hoopB (at' gs (i.toNat * 5)) (at' gs (i.toNat * 5 + 1)) (at' gs (i.toNat * 5 + 2)) (at' gs (i.toNat * 5 + 3)) = true) (f0 : ¬i < (n : Int)) : Runs cfx 0 3 none (loopOf cfx.P 54 0) (rpo_T nm gs cs n k T U w g y a b r p q i ps m) (rpo_H nm gs cs n k T U w g y a b r p q i ps m) (Ex.exit 0) (rpo_T3 nm gs cs n k T U w g y a b r p q i ps m) (rpo_H3 nm gs cs n k T U w g y a b r p q i ps m) := by
  have hq := fun h => M.hoop_facts (hg h)
  refine Runs.post (t1 := (catV [lwA nm w g y n a b r p q k, .ptr 2 0, V.raw (Value.slice none 0 0), .slo 3 m, iV i, .any 5, .any 6, .any 7, .any 8, iV i, .ptr 2 4, .slo 0 n, iV (n : Int), V.raw (.bool (decide (i < (n : Int))))] (anyR 14 59 []))) (h1 := [bkG gs T, bkI cs U, bkW nm w g y n a b r p q k, some (.cells (ints ps) 26 (.row 3))]) (body_of cfx_mixed cfx_call zz (rnd := none) (fi := 0) (k := 0) (n := 40) (n0 := 3) (ans := [zF]) (cons := [(decide (i < (n : Int)) = false)]) zk
    ⟨zdo, trivial⟩ zb zb noRnd (noRanges zk)) (fun RT RH => reshape2 (lim := 0) 3 cfx_G rfl [some 3] zk zk (by exact (ents_raw (mix_all _ _) rfl rfl (ents_raw (ints_all _) rfl rfl (ents_say rfl rfl rfl rfl (ents_raw (ints_all _) rfl rfl (ents_nil)))))) RT RH)
end Go.Proofs.Ytmelbcmfahcffaa
end
section
namespace Go.Proofs.Ytmelbcmfahcffaa
open Go Go.RowKit Go.Proofs.Ytmelbcmfahcffaa.E2
variable (nm : ByteArray) (gs cs : List Int) (n k : Nat) (T U : Nat) (w g y a b r p q : Int)
def M.hoopsB (gs : List Int) (n : Nat) : Bool := (List.range n).all (M.hoopZ gs)
theorem hf_loop (gs : List Int) (n : Nat) (T : Nat) (hz : n * 5 ≤ gs.length) (hn : n ≤ 20) : (M.hoopsB gs n = true ∧ Runs cfx 0 1 none (.loop (loopOf cfx.P 94 0)) (hf_T gs n T 0) (hf_H gs n T 0) (.exit 0) (hf_T7 gs n T n) (hf_H7 gs n T n)) ∨ (M.hoopsB gs n = false ∧ ∃ i : Nat, Runs cfx 0 1 none (.loop (loopOf cfx.P 94 0)) (hf_T gs n T 0) (hf_H gs n T 0) (.ret) (hf_T1 gs n T i) (hf_H1 gs n T i)) := by
  rcases upto_find (c := cfx) (lim := 0) (n0 := 1) (x := loopOf cfx.P 94 0) noRnd (M.hoopZ gs) (fun i : Nat => hf_T gs n T i) (fun i : Nat => hf_H gs n T i) n (fun i : Nat => hf_T1 gs n T i) (fun i : Nat => hf_H1 gs n T i) (e := .exit 0) (e1 := .ret) (by simp) (by simp)
    (fun i hi hg => by
      simp only [M.hoopZ, M.hoopB, Bool.and_eq_true, decide_eq_true_eq] at hg
      obtain ⟨⟨⟨⟨q1, q2⟩, q3⟩, q4⟩, q5⟩ := hg
      exact hf_6 gs n T hz hn i zo zo q1 q2 q3 q4 q5)
    (fun i hi hg => by
      cases q1 : M.btw (at' gs (i * 5)) 0 4194304 with
      | false => exact hf_1 gs n T hz hn i zo zo q1
      | true =>
      cases q2 : M.btw (at' gs (i * 5 + 1)) 0 4194304 with
      | false => exact hf_2 gs n T hz hn i zo zo q1 q2
      | true =>
      cases q3 : M.btw (at' gs (i * 5 + 2)) 2 32768 with
      | false => exact hf_3 gs n T hz hn i zo zo q1 q2 q3
      | true =>
      by_cases q4 : (at' gs (i * 5 + 2)).tmod 2 = 0
      · cases q5 : M.btw (at' gs (i * 5 + 3)) 1 8192 with
        | false => exact hf_5 gs n T hz hn i zo zo q1 q2 q3 q4 q5
        | true => simp [M.hoopZ, M.hoopB, q1, q2, q3, q4, q5] at hg
      · exact hf_4 gs n T hz hn i zo zo q1 q2 q3 q4)
    (hf_7 gs n T hz hn n zo zo) with ⟨h1, h2⟩ | ⟨h1, i, hi, h2, h3, h4⟩
  · exact .inl ⟨h1, h2⟩
  · exact .inr ⟨h1, i, h4⟩
abbrev zq107 (n : Nat) : List V := (catV [.slo 0 n, uV, V.raw (.bool false), uV, .any 4, .slo 0 n, iV (n : Int), iV (n : Int)] (anyR 8 32 []))
abbrev zq180 (n : Nat) : List V := (catV [.slo 0 n, uV, V.raw (.bool false), uV, uV, .slo 0 n, iV (n : Int), iV 0] (repU 32 []))
theorem hoopsFit_ok (gs : List Int) (n : Nat) (T : Nat) (hz : n * 5 ≤ gs.length) (hn : n ≤ 20) (hR : Runs cfx 0 1 none (.loop (loopOf cfx.P 94 0)) (hf_T gs n T 0) (hf_H gs n T 0) (.exit 0) (hf_T7 gs n T n) (hf_H7 gs n T n))  : Meets cfx 0 94 [.slo 0 n] [bkG gs T] (V.raw (.bool true)) [bkG gs T] := by
  refine Meets.post (meets_ev cfx_mixed cfx_call zz zb (n := 40) (ans := [Ans.go, Ans.loop (Ex.exit 0) (zq107 n) [bkG gs T]]) (v := V.raw (.bool true)) (h' := [bkG gs T]) (cons := [(Runs cfx 0 1 none (.loop (loopOf cfx.P 94 0)) (zq180 n) [bkG gs T] (Ex.exit 0) (zq107 n) [bkG gs T])]) zk
    ⟨(by
      refine Runs.pre (fun b e => by cases e) (fun RT RH => ?_) (hR)
      exact reshape2 (lim := 0) 1 (t := (zq180 n)) (h := [bkG gs T]) cfx_G rfl [] zk zk zdr RT RH), trivial⟩) zk zt9
abbrev zq108 (n : Nat) (i : Nat) : List V := (catV [.slo 0 n, uV, V.raw (.bool false), uV, .any 4, .slo 0 n, iV (n : Int), iV (i : Int)] (anyR 8 32 []))
theorem hoopsFit_bad (gs : List Int) (n : Nat) (T : Nat) (hz : n * 5 ≤ gs.length) (hn : n ≤ 20) (i : Nat) (hR : Runs cfx 0 1 none (.loop (loopOf cfx.P 94 0)) (hf_T gs n T 0) (hf_H gs n T 0) (.ret) (hf_T1 gs n T i) (hf_H1 gs n T i))  : Meets cfx 0 94 [.slo 0 n] [bkG gs T] (V.raw (.bool false)) [bkG gs T] := by
  refine Meets.post (meets_ev cfx_mixed cfx_call zz zb (n := 40) (ans := [Ans.go, Ans.loop Ex.ret (zq108 n i) [bkG gs T]]) (v := V.raw (.bool false)) (h' := [bkG gs T]) (cons := [(Runs cfx 0 1 none (.loop (loopOf cfx.P 94 0)) (zq180 n) [bkG gs T] (Ex.ret) (zq108 n i) [bkG gs T])]) zk
    ⟨(by
      refine Runs.pre (fun b e => by cases e) (fun RT RH => ?_) (hR)
      exact reshape2 (lim := 0) 1 (t := (zq180 n)) (h := [bkG gs T]) cfx_G rfl [] zk zk zdr RT RH), trivial⟩) zk zt9
theorem hoopsFit_all (gs : List Int) (n : Nat) (T : Nat) (hz : n * 5 ≤ gs.length) (hn : n ≤ 20) : Meets cfx 0 94 [.slo 0 n] [bkG gs T] (.raw (.bool (M.hoopsB gs n))) [bkG gs T] := by
  rcases hf_loop gs n T hz hn with ⟨h1, h2⟩ | ⟨h1, i, h2⟩
  · rw [h1]; exact hoopsFit_ok gs n T hz hn h2
  · rw [h1]; exact hoopsFit_bad gs n T hz hn i h2
theorem M.postF_at (gs : List Int) (i j : Nat) (h : j < 6) : M.postF gs (i * 6 + j) = if j = 0 then M.wA (nz gs (i * 5 + 4)) (at' gs (i * 5)) (M.hoopD gs i) else if j = 1 then M.wA (!nz gs (i * 5 + 4)) (at' gs (i * 5 + 1)) (M.hoopD gs i) else if j = 3 then M.wB (nz gs (i * 5 + 4)) (at' gs (i * 5)) (M.hoopD gs i) else if j = 4 then M.wB (!nz gs (i * 5 + 4)) (at' gs (i * 5 + 1)) (M.hoopD gs i) else at' gs (i * 5 + 3) := by
  unfold M.postF
  rw [show (i * 6 + j) % 6 = j by omega, show (i * 6 + j) / 6 = i by omega]
theorem tab_app6 (f : Nat → Int) (n : Nat) {x0 x1 x2 x3 x4 x5 : Int} (h0 : f n = x0) (h1 : f (n + 1) = x1) (h2 : f (n + 2) = x2) (h3 : f (n + 3) = x3) (h4 : f (n + 4) = x4) (h5 : f (n + 5) = x5) : tab n f ++ [x0, x1, x2, x3, x4, x5] = tab (n + 6) f := by
  subst h0 h1 h2 h3 h4 h5
  unfold tab
  rw [List.range_add, List.map_append, List.map_map]
  rfl
theorem M.posts_app (gs : List Int) (i : Nat) : tab (i * 6) (M.postF gs) ++ [M.wA (nz gs (i * 5 + 4)) (at' gs (i * 5)) (M.hoopD gs i), M.wA (!nz gs (i * 5 + 4)) (at' gs (i * 5 + 1)) (M.hoopD gs i), at' gs (i * 5 + 3), M.wB (nz gs (i * 5 + 4)) (at' gs (i * 5)) (M.hoopD gs i), M.wB (!nz gs (i * 5 + 4)) (at' gs (i * 5 + 1)) (M.hoopD gs i), at' gs (i * 5 + 3)] = tab ((i + 1) * 6) (M.postF gs) := by
  rw [show (i + 1) * 6 = i * 6 + 6 by omega]
  exact tab_app6 _ _ (M.postF_at gs i 0 zo) (M.postF_at gs i 1 zo) (M.postF_at gs i 2 zo) (M.postF_at gs i 3 zo) (M.postF_at gs i 4 zo) (M.postF_at gs i 5 zo)
theorem po_loop (hz : n * 5 ≤ gs.length) (hn : n ≤ 20) (hg : M.hoopsB gs n = true) : Runs cfx 0 4 none (.loop (loopOf cfx.P 53 0)) (po_T nm gs cs n k T U w g y a b r p q 0 [] 0) (po_H nm gs cs n k T U w g y a b r p q 0 [] 0) (.exit 0) (po_T2 nm gs cs n k T U w g y a b r p q n (tab (n * 6) (M.postF gs)) (2 * n)) (po_H2 nm gs cs n k T U w g y a b r p q n (tab (n * 6) (M.postF gs)) (2 * n)) :=
  upto (c := cfx) (lim := 0) (n0 := 4) (x := loopOf cfx.P 53 0) noRnd (fun i : Nat => po_T nm gs cs n k T U w g y a b r p q i (tab (i * 6) (M.postF gs)) (2 * i)) (fun i : Nat => po_H nm gs cs n k T U w g y a b r p q i (tab (i * 6) (M.postF gs)) (2 * i)) n (e := .exit 0) (by simp)
    (fun i hi => by
      have := po_1 nm gs cs n k T U w g y a b r p q hz hn i (tab (i * 6) (M.postF gs)) (2 * i) (by omega) (by rw [tab_len]; omega) (by omega) (fun _ => all_range hg i hi) (by omega)
      simp only [Int.toNat_natCast] at this
      rw [show (at' gs (i * 5 + 2)).tdiv 2 + at' gs (i * 5 + 3) = M.hoopD gs i from rfl, M.posts_app] at this
      exact this)
    (po_2 nm gs cs n k T U w g y a b r p q hz hn n (tab (n * 6) (M.postF gs)) (2 * n) (by omega) (by rw [tab_len]; omega) (by omega) (fun h => by omega) (by omega))
theorem rpo_loop (hz : n * 5 ≤ gs.length) (hn : n ≤ 20) (hg : M.hoopsB gs n = true) : Runs cfx 0 3 none (.loop (loopOf cfx.P 54 0)) (rpo_T nm gs cs n k T U w g y a b r p q 0 [] 0) (rpo_H nm gs cs n k T U w g y a b r p q 0 [] 0) (.exit 0) (rpo_T3 nm gs cs n k T U w g y a b r p q n (tab (n * 6) (M.postF gs)) (2 * n)) (rpo_H3 nm gs cs n k T U w g y a b r p q n (tab (n * 6) (M.postF gs)) (2 * n)) :=
  upto (c := cfx) (lim := 0) (n0 := 3) (x := loopOf cfx.P 54 0) noRnd (fun i : Nat => rpo_T nm gs cs n k T U w g y a b r p q i (tab (i * 6) (M.postF gs)) (2 * i)) (fun i : Nat => rpo_H nm gs cs n k T U w g y a b r p q i (tab (i * 6) (M.postF gs)) (2 * i)) n (e := .exit 0) (by simp)
    (fun i hi => by
      have happ := M.posts_app gs i
      cases hq : nz gs (i * 5 + 4) with
      | true =>
        have := rpo_1 nm gs cs n k T U w g y a b r p q hz hn i (tab (i * 6) (M.postF gs)) (2 * i) (by omega) (by rw [tab_len]; omega) (by omega) (fun _ => all_range hg i hi) (by omega) (by simpa using hq)
        simp only [Int.toNat_natCast] at this
        simp only [hq, M.wA, M.wB, M.hoopD, if_true, Bool.not_true, Bool.false_eq_true, if_false] at happ
        rw [happ] at this
        exact this
      | false =>
        have := rpo_2 nm gs cs n k T U w g y a b r p q hz hn i (tab (i * 6) (M.postF gs)) (2 * i) (by omega) (by rw [tab_len]; omega) (by omega) (fun _ => all_range hg i hi) (by omega) (by simpa using hq)
        simp only [Int.toNat_natCast] at this
        simp only [hq, M.wA, M.wB, M.hoopD, if_true, Bool.not_false, Bool.false_eq_true, if_false] at happ
        rw [happ] at this
        exact this)
    (rpo_3 nm gs cs n k T U w g y a b r p q hz hn n (tab (n * 6) (M.postF gs)) (2 * n) (by omega) (by rw [tab_len]; omega) (by omega) (fun h => by omega) (by omega))
abbrev zq109 (nm : ByteArray) (w : Int) (g : Int) (y : Int) (n : Nat) (a : Int) (b : Int) (r : Int) (p : Int) (q : Int) (k : Nat) : List V := (catV [lwA nm w g y n a b r p q k, .ptr 2 0, V.raw (Value.slice none 0 0), .slo 4 (2 * n)] (anyR 4 10 (catV [.slo 0 n, iV (n : Int), iV (n : Int)] (anyR 17 18 []))))
theorem posts_ok (hz : n * 5 ≤ gs.length) (hn : n ≤ 20) (hR : Runs cfx 0 4 none (.loop (loopOf cfx.P 53 0)) (po_T nm gs cs n k T U w g y a b r p q 0 [] 0) (po_H nm gs cs n k T U w g y a b r p q 0 [] 0) (.exit 0) (po_T2 nm gs cs n k T U w g y a b r p q n (tab (n * 6) (M.postF gs)) (2 * n)) (po_H2 nm gs cs n k T U w g y a b r p q n (tab (n * 6) (M.postF gs)) (2 * n)))  : Meets cfx 0 53 [lwA nm w g y n a b r p q k] [bkG gs T, bkI cs U] (.slo 2 (2 * n + 1)) [bkG gs T, bkI cs U, some (.cells (ints (tab (n * 6) (M.postF gs) ++ [a, b, r])) 26 (.row 3))] := by
  refine Meets.post (meets_ev cfx_mixed cfx_call zz zb (n := 40) (ans := [Ans.go, Ans.loop (Ex.exit 0) (zq109 nm w g y n a b r p q k) [bkG gs T, bkI cs U, bkW nm w g y n a b r p q k, none, some (.cells (ints (tab (n * 6) (M.postF gs))) 26 (.row 3))], Ans.cells 6 (ints (tab (n * 6) (M.postF gs) ++ [a, b, r]))]) (v := .slo 6 (2 * n + 1)) (h' := [bkG gs T, bkI cs U, bkW nm w g y n a b r p q k, none, none, some (.cells [iV a, iV b, iV r] 26 (.row 3)), some (.cells (ints (tab (n * 6) (M.postF gs) ++ [a, b, r])) 26 (.row 3))]) (cons := [(inR IntKind.i64 ((2 * n) : Int)), (inR IntKind.i64 ((2 * n + 1) : Int)), ((0 : Int) ≤ (0 : Int) ∧ 0 ≤ ((2 * n + 1) : Int) ∧ ((24 * (2 * n + 1)) : Int) ≤ 281474976710656 ∧ ((2 * n + 1) : Int) ≤ 9223372036854775807), (Runs cfx 0 4 none (.loop (loopOf cfx.P 53 0)) (catV [lwA nm w g y n a b r p q k, .ptr 2 0, V.raw (Value.slice none 0 0), .slo 3 0, uV, uV, uV, .ptr 2 4, .slo 0 n, iV (n : Int), iV ((2 * n) : Int), iV ((2 * n + 1) : Int), .slo 3 0, .ptr 2 4, .slo 0 n, iV (n : Int), iV 0] (repU 18 [])) [bkG gs T, bkI cs U, bkW nm w g y n a b r p q k, some (.cells [] 26 (.row 3))] (Ex.exit 0) (zq109 nm w g y n a b r p q k) [bkG gs T, bkI cs U, bkW nm w g y n a b r p q k, none, some (.cells (ints (tab (n * 6) (M.postF gs))) 26 (.row 3))]), (1 ≤ 9223372036854775807), (1 * 3 ≤ List.length ([iV a, iV b, iV r] : List V)), (oneCells (List.take (1 * 3) ([iV a, iV b, iV r] : List V)) = true), (List.length ((ints (tab (n * 6) (M.postF gs))) : List V) = (2 * n) * 3), ((2 * n) + 1 ≤ maxLen ∧ ((2 * n) + 1) * 24 ≤ 140737488355328), (((ints (tab (n * 6) (M.postF gs))) : List V) ++ (List.take (1 * 3) ([iV a, iV b, iV r] : List V)) = (ints (tab (n * 6) (M.postF gs) ++ [a, b, r])))]) zk
    ⟨inR_i64 zo zo, inR_i64 zo zo, zds, (by
      refine Runs.pre (fun b e => by cases e) (fun RT RH => ?_) (hR)
      exact reshape2 (lim := 0) 4 (t := (catV [lwA nm w g y n a b r p q k, .ptr 2 0, V.raw (Value.slice none 0 0), .slo 3 0, uV, uV, uV, .ptr 2 4, .slo 0 n, iV (n : Int), iV ((2 * n) : Int), iV ((2 * n + 1) : Int), .slo 3 0, .ptr 2 4, .slo 0 n, iV (n : Int), iV 0] (repU 18 []))) (h := [bkG gs T, bkI cs U, bkW nm w g y n a b r p q k, some (.cells [] 26 (.row 3))]) cfx_G rfl [some 3] (by kernel_rfl) (by kernel_rfl) zdr RT RH), zds, (by first | omega | (simp only [ints_len, putI_length, List.length_append, List.length_replicate, List.length_take, List.length_drop, List.length_cons, List.length_nil, tab_len]; omega) | (simp only [ints_len, putI_length, List.length_append, List.length_replicate, List.length_take, List.length_drop, List.length_cons, List.length_nil, tab_len]; done)), (by first | exact ones_take _ _ | rfl), (by first | omega | (simp only [ints_len, putI_length, List.length_append, List.length_replicate, List.length_take, List.length_drop, List.length_cons, List.length_nil, tab_len]; omega) | (simp only [ints_len, putI_length, List.length_append, List.length_replicate, List.length_take, List.length_drop, List.length_cons, List.length_nil, tab_len]; done)), (by unfold maxLen; constructor <;> omega), (by first | rfl | exact app_lit _ _ rfl | exact app_row _ _ _ | exact row_row0 _ _ | exact app_row0 _ _), trivial⟩) (by kernel_rfl) (fun RT RH => reshape2 (lim := 0) 2 cfx_G rfl [some 6] (by kernel_rfl) (by kernel_rfl) (by exact (ents_raw (mix_all _ _) rfl rfl (ents_raw (ints_all _) rfl rfl (ents_raw (ints_all _) rfl rfl (ents_nil))))) RT RH)
abbrev zq47 (nm : ByteArray) (w : Int) (g : Int) (y : Int) (n : Nat) (a : Int) (b : Int) (r : Int) (p : Int) (q : Int) (k : Nat) : List V := (catV [lwA nm w g y n a b r p q k, .ptr 2 0, V.raw (Value.slice none 0 0), .slo 3 (2 * n), iV (n : Int)] (anyR 5 68 []))
abbrev zq106 (nm : ByteArray) (w : Int) (g : Int) (y : Int) (n : Nat) (a : Int) (b : Int) (r : Int) (p : Int) (q : Int) (k : Nat) : List V := (catV [lwA nm w g y n a b r p q k, .ptr 2 0, V.raw (Value.slice none 0 0), V.raw (Value.slice none 0 0), iV 0] (repU 68 []))
theorem rposts_ok (hz : n * 5 ≤ gs.length) (hn : n ≤ 20) (hR : Runs cfx 0 3 none (.loop (loopOf cfx.P 54 0)) (rpo_T nm gs cs n k T U w g y a b r p q 0 [] 0) (rpo_H nm gs cs n k T U w g y a b r p q 0 [] 0) (.exit 0) (rpo_T3 nm gs cs n k T U w g y a b r p q n (tab (n * 6) (M.postF gs)) (2 * n)) (rpo_H3 nm gs cs n k T U w g y a b r p q n (tab (n * 6) (M.postF gs)) (2 * n)))  : Meets cfx 0 54 [lwA nm w g y n a b r p q k] [bkG gs T, bkI cs U] (.slo 2 (2 * n + 1)) [bkG gs T, bkI cs U, some (.cells (ints (tab (n * 6) (M.postF gs) ++ [a, b, r])) 26 (.row 3))] := by
  refine Meets.post (meets_ev cfx_mixed cfx_call zz zb (n := 40) (ans := [Ans.go, Ans.loop (Ex.exit 0) (zq47 nm w g y n a b r p q k) [bkG gs T, bkI cs U, bkW nm w g y n a b r p q k, some (.cells (ints (tab (n * 6) (M.postF gs))) 26 (.row 3))], Ans.cells 5 (ints (tab (n * 6) (M.postF gs) ++ [a, b, r]))]) (v := .slo 5 (2 * n + 1)) (h' := [bkG gs T, bkI cs U, bkW nm w g y n a b r p q k, none, some (.cells [iV a, iV b, iV r] 26 (.row 3)), some (.cells (ints (tab (n * 6) (M.postF gs) ++ [a, b, r])) 26 (.row 3))]) (cons := [(Runs cfx 0 3 none (.loop (loopOf cfx.P 54 0)) (zq106 nm w g y n a b r p q k) [bkG gs T, bkI cs U, bkW nm w g y n a b r p q k] (Ex.exit 0) (zq47 nm w g y n a b r p q k) [bkG gs T, bkI cs U, bkW nm w g y n a b r p q k, some (.cells (ints (tab (n * 6) (M.postF gs))) 26 (.row 3))]), (1 ≤ 9223372036854775807), (1 * 3 ≤ List.length ([iV a, iV b, iV r] : List V)), (oneCells (List.take (1 * 3) ([iV a, iV b, iV r] : List V)) = true), (List.length ((ints (tab (n * 6) (M.postF gs))) : List V) = (2 * n) * 3), ((2 * n) + 1 ≤ maxLen ∧ ((2 * n) + 1) * 24 ≤ 140737488355328), (((ints (tab (n * 6) (M.postF gs))) : List V) ++ (List.take (1 * 3) ([iV a, iV b, iV r] : List V)) = (ints (tab (n * 6) (M.postF gs) ++ [a, b, r])))]) zk
    ⟨(by
      refine Runs.pre (fun b e => by cases e) (fun RT RH => ?_) (hR)
      exact reshape2 (lim := 0) 3 (t := (zq106 nm w g y n a b r p q k)) (h := [bkG gs T, bkI cs U, bkW nm w g y n a b r p q k]) cfx_G rfl [none] (by kernel_rfl) (by kernel_rfl) zdr RT RH), zds, (by first | omega | (simp only [ints_len, putI_length, List.length_append, List.length_replicate, List.length_take, List.length_drop, List.length_cons, List.length_nil, tab_len]; omega) | (simp only [ints_len, putI_length, List.length_append, List.length_replicate, List.length_take, List.length_drop, List.length_cons, List.length_nil, tab_len]; done)), (by first | exact ones_take _ _ | rfl), (by first | omega | (simp only [ints_len, putI_length, List.length_append, List.length_replicate, List.length_take, List.length_drop, List.length_cons, List.length_nil, tab_len]; omega) | (simp only [ints_len, putI_length, List.length_append, List.length_replicate, List.length_take, List.length_drop, List.length_cons, List.length_nil, tab_len]; done)), (by unfold maxLen; constructor <;> omega), (by first | rfl | exact app_lit _ _ rfl | exact app_row _ _ _ | exact row_row0 _ _ | exact app_row0 _ _), trivial⟩) (by kernel_rfl) (fun RT RH => reshape2 (lim := 0) 2 cfx_G rfl [some 5] (by kernel_rfl) (by kernel_rfl) (by exact (ents_raw (mix_all _ _) rfl rfl (ents_raw (ints_all _) rfl rfl (ents_raw (ints_all _) rfl rfl (ents_nil))))) RT RH)
end Go.Proofs.Ytmelbcmfahcffaa
end
section
namespace Go.Proofs.Ytmelbcmfahcffaa
open Go Go.RowKit Go.Proofs.Ytmelbcmfahcffaa.E2
theorem rck_loop (nm : ByteArray) (gs cs : List Int) (n k : Nat) (T U : Nat) (w g y a b r p q : Int) (hn1 : ¬ (n : Int) < 1) (hn2 : ¬ 12 < n) (hk : ¬ 256 < k) (hz : n * 5 ≤ gs.length) (hnm : Ret cfx 87 [.raw (.string nm)] (.raw (.bool true))) (hs1 : M.btw w 65536 4194304 = true) (hs2 : M.btw g 65536 4194304 = true) (hs3 : M.btw y 0 ((if g < w then g else w).tdiv 4) = true) : (M.hoopsB gs n = true ∧ Runs cfx 0 3 none (.loop (loopOf cfx.P 45 0)) (rck_T nm gs cs n k T U w g y a b r p q 0) (rck_H nm gs cs n k T U w g y a b r p q 0) (.exit 0) (rck_T3 nm gs cs n k T U w g y a b r p q n) (rck_H3 nm gs cs n k T U w g y a b r p q n)) ∨ (M.hoopsB gs n = false ∧ ∃ i : Nat, Runs cfx 0 3 none (.loop (loopOf cfx.P 45 0)) (rck_T nm gs cs n k T U w g y a b r p q 0) (rck_H nm gs cs n k T U w g y a b r p q 0) (.ret) (rck_T1 nm gs cs n k T U w g y a b r p q i) (rck_H1 nm gs cs n k T U w g y a b r p q i)) := by
  rcases upto_find (c := cfx) (lim := 0) (n0 := 3) (x := loopOf cfx.P 45 0) noRnd (M.hoopZ gs) (fun i : Nat => rck_T nm gs cs n k T U w g y a b r p q i) (fun i : Nat => rck_H nm gs cs n k T U w g y a b r p q i) n (fun i : Nat => rck_T1 nm gs cs n k T U w g y a b r p q i) (fun i : Nat => rck_H1 nm gs cs n k T U w g y a b r p q i) (e := .exit 0) (e1 := .ret) (by simp) (by simp)
    (fun i hi hgd => rck_2 nm gs cs n k T U w g y a b r p q hn1 hn2 hk hz hnm hs1 hs2 hs3 i zo zo hgd)
    (fun i hi hgd => rck_1 nm gs cs n k T U w g y a b r p q hn1 hn2 hk hz hnm hs1 hs2 hs3 i zo zo hgd)
    (rck_3 nm gs cs n k T U w g y a b r p q hn1 hn2 hk hz hnm hs1 hs2 hs3 n zo zo) with ⟨h1, h2⟩ | ⟨h1, i, hi, h2, h3, h4⟩
  · exact .inl ⟨h1, h2⟩
  · exact .inr ⟨h1, i, h4⟩
abbrev zq20 (nm : ByteArray) (w : Int) (g : Int) (y : Int) (n : Nat) (a : Int) (b : Int) (r : Int) (p : Int) (q : Int) (k : Nat) (i : Int) : List V := (catV [lwA nm w g y n a b r p q k, .ptr 2 0, iV 0, iV (n : Int), iV i] (anyR 5 219 []))
def rcl_T (nm : ByteArray) (gs cs : List Int) (n k : Nat) (T U : Nat) (w g y a b r p q : Int) (i : Int) : List V := (zq20 nm w g y n a b r p q k i)
def rcl_H (nm : ByteArray) (gs cs : List Int) (n k : Nat) (T U : Nat) (w g y a b r p q : Int) (i : Int) : Heap := [bkG gs T, bkI cs U, bkW nm w g y n a b r p q k]
def rcl_T1 (nm : ByteArray) (gs cs : List Int) (n k : Nat) (T U : Nat) (w g y a b r p q : Int) (i : Int) : List V := (catV [lwA nm w g y n a b r p q k, .ptr 2 0, iV 2, iV (n : Int), iV i] (anyR 5 219 []))
def rcl_H1 (nm : ByteArray) (gs cs : List Int) (n k : Nat) (T U : Nat) (w g y a b r p q : Int) (i : Int) : Heap := [bkG gs T, bkI cs U, bkW nm w g y n a b r p q k]
abbrev zq150 (cs : List Int) (i : Int) : Prop := Ret cfx 89 [V.raw (.agg { toList := [.int .i64 (at' cs (i.toNat * 3)), .int .i64 (at' cs (i.toNat * 3 + 1)), .int .i64 (at' cs (i.toNat * 3 + 2))] })] (V.raw (.bool (M.cellB (at' cs (i.toNat * 3)) (at' cs (i.toNat * 3 + 1)) (at' cs (i.toNat * 3 + 2)))))
abbrev zq160 (nm : ByteArray) (gs : List Int) (cs : List Int) (n : Nat) (k : Nat) (T : Nat) (U : Nat) (w : Int) (g : Int) (y : Int) (a : Int) (b : Int) (r : Int) (p : Int) (q : Int) : Prop := Runs cfx 0 3 none (.loop (loopOf cfx.P 45 0)) (rck_T nm gs cs n k T U w g y a b r p q 0) (rck_H nm gs cs n k T U w g y a b r p q 0) (.exit 0) (rck_T3 nm gs cs n k T U w g y a b r p q n) (rck_H3 nm gs cs n k T U w g y a b r p q n)
theorem rcl_1 (nm : ByteArray) (gs cs : List Int) (n k : Nat) (T U : Nat) (w g y a b r p q : Int) (hn1 : ¬ (n : Int) < 1) (hn2 : ¬ 12 < n) (hk : ¬ 256 < k) (hz : n * 5 ≤ gs.length) (hnm : Ret cfx 87 [.raw (.string nm)] (.raw (.bool true))) (hs1 : M.btw w 65536 4194304 = true) (hs2 : M.btw g 65536 4194304 = true) (hs3 : M.btw y 0 ((if g < w then g else w).tdiv 4) = true) (hzc : k * 3 ≤ cs.length) (hr : M.btw r 1 8192 = true) (ha : M.btw a 0 4194304 = true) (hb : M.btw b 0 4194304 = true) (hp1 : ¬ p < 1) (hp2 : ¬ 16 < p) (hq1 : ¬ q < 1) (hq2 : ¬ 16 < q) (hpq : 0 ≤ p * q ∧ p * q ≤ 256) (hkk : (k : Int) = p * q) (hR0 : (zq160 nm gs cs n k T U w g y a b r p q)) (i : Int) (hi1 : 0 ≤ i) (f0 : i < (k : Int)) (f1 : M.cellB (at' cs (i.toNat * 3)) (at' cs (i.toNat * 3 + 1)) (at' cs (i.toNat * 3 + 2)) = false) : Runs cfx 0 3 none (loopOf cfx.P 45 1) (rcl_T nm gs cs n k T U w g y a b r p q i) (rcl_H nm gs cs n k T U w g y a b r p q i) (Ex.ret) (rcl_T1 nm gs cs n k T U w g y a b r p q i) (rcl_H1 nm gs cs n k T U w g y a b r p q i) := by
  refine Runs.post (t1 := (catV [lwA nm w g y n a b r p q k, .ptr 2 0, iV 2, iV (n : Int), iV i] (anyR 5 113 (catV [iV i, .ptr 2 10, .slo 1 k, iV (k : Int), V.raw (.bool (decide (i < (k : Int)))), .any 123, .any 124, .ptr 2 10, .slo 1 k, iV i, V.ptr 1 (i.toNat * 3), (rowV cs (i.toNat * 3) 3), V.raw (.bool (M.cellB (at' cs (i.toNat * 3)) (at' cs (i.toNat * 3 + 1)) (at' cs (i.toNat * 3 + 2)))), V.raw (.bool !M.cellB (at' cs (i.toNat * 3)) (at' cs (i.toNat * 3 + 1)) (at' cs (i.toNat * 3 + 2)))] (anyR 132 92 []))))) (h1 := [bkG gs T, bkI cs U, bkW nm w g y n a b r p q k]) (body_of cfx_mixed cfx_call zz (rnd := none) (fi := 0) (k := 0) (n := 40) (n0 := 3) (ans := [zT, Ans.val 1 ((rowV cs (i.toNat * 3) 3)), Ans.ret (V.raw (.bool (M.cellB (at' cs (i.toNat * 3)) (at' cs (i.toNat * 3 + 1)) (at' cs (i.toNat * 3 + 2))))), zT]) (cons := [(decide (i < (k : Int)) = true), (0 ≤ i ∧ i < (k : Int)), (loadRow cfx 39 (ints cs) (i.toNat * 3) = some ((rowV cs (i.toNat * 3) 3))), ((zq150 cs i)), ((!M.cellB (at' cs (i.toNat * 3)) (at' cs (i.toNat * 3 + 1)) (at' cs (i.toNat * 3 + 2))) = true)]) zk
    ⟨zdo, zo, (load_agg 3 zk zk zb zo), (lnCell _ _ _), zdf, trivial⟩ zb zb noRnd (noRanges zk)) zt4
theorem rcl_2 (nm : ByteArray) (gs cs : List Int) (n k : Nat) (T U : Nat) (w g y a b r p q : Int) (hn1 : ¬ (n : Int) < 1) (hn2 : ¬ 12 < n) (hk : ¬ 256 < k) (hz : n * 5 ≤ gs.length) (hnm : Ret cfx 87 [.raw (.string nm)] (.raw (.bool true))) (hs1 : M.btw w 65536 4194304 = true) (hs2 : M.btw g 65536 4194304 = true) (hs3 : M.btw y 0 ((if g < w then g else w).tdiv 4) = true) (hzc : k * 3 ≤ cs.length) (hr : M.btw r 1 8192 = true) (ha : M.btw a 0 4194304 = true) (hb : M.btw b 0 4194304 = true) (hp1 : ¬ p < 1) (hp2 : ¬ 16 < p) (hq1 : ¬ q < 1) (hq2 : ¬ 16 < q) (hpq : 0 ≤ p * q ∧ p * q ≤ 256) (hkk : (k : Int) = p * q) (hR0 : (zq160 nm gs cs n k T U w g y a b r p q)) (i : Int) (hi1 : 0 ≤ i) (f0 : i < (k : Int)) (f1 : M.cellB (at' cs (i.toNat * 3)) (at' cs (i.toNat * 3 + 1)) (at' cs (i.toNat * 3 + 2)) = true) : Runs cfx 0 3 none (loopOf cfx.P 45 1) (rcl_T nm gs cs n k T U w g y a b r p q i) (rcl_H nm gs cs n k T U w g y a b r p q i) (Ex.normal) (rcl_T nm gs cs n k T U w g y a b r p q (i + 1)) (rcl_H nm gs cs n k T U w g y a b r p q (i + 1)) := by
  refine Runs.post (t1 := (catV [lwA nm w g y n a b r p q k, .ptr 2 0, iV 0, iV (n : Int), iV (i + 1)] (anyR 5 113 (catV [iV i, .ptr 2 10, .slo 1 k, iV (k : Int), V.raw (.bool (decide (i < (k : Int)))), iV i, iV (i + 1), .ptr 2 10, .slo 1 k, iV i, V.ptr 1 (i.toNat * 3), (rowV cs (i.toNat * 3) 3), V.raw (.bool (M.cellB (at' cs (i.toNat * 3)) (at' cs (i.toNat * 3 + 1)) (at' cs (i.toNat * 3 + 2)))), V.raw (.bool !M.cellB (at' cs (i.toNat * 3)) (at' cs (i.toNat * 3 + 1)) (at' cs (i.toNat * 3 + 2)))] (anyR 132 92 []))))) (h1 := [bkG gs T, bkI cs U, bkW nm w g y n a b r p q k]) (body_of cfx_mixed cfx_call zz (rnd := none) (fi := 0) (k := 0) (n := 40) (n0 := 3) (ans := [zT, Ans.val 1 ((rowV cs (i.toNat * 3) 3)), Ans.ret (V.raw (.bool (M.cellB (at' cs (i.toNat * 3)) (at' cs (i.toNat * 3 + 1)) (at' cs (i.toNat * 3 + 2))))), zF]) (cons := [(decide (i < (k : Int)) = true), (0 ≤ i ∧ i < (k : Int)), (loadRow cfx 39 (ints cs) (i.toNat * 3) = some ((rowV cs (i.toNat * 3) 3))), ((zq150 cs i)), ((!M.cellB (at' cs (i.toNat * 3)) (at' cs (i.toNat * 3 + 1)) (at' cs (i.toNat * 3 + 2))) = false), (inR IntKind.i64 (i + 1))]) zk
    ⟨zdo, zo, (load_agg 3 zk zk zb zo), (lnCell _ _ _), zdf, inR_i64 zo zo, trivial⟩ zb zb noRnd (noRanges zk)) zt4
def rcl_T3 (nm : ByteArray) (gs cs : List Int) (n k : Nat) (T U : Nat) (w g y a b r p q : Int) (i : Int) : List V := (zq20 nm w g y n a b r p q k i)
def rcl_H3 (nm : ByteArray) (gs cs : List Int) (n k : Nat) (T U : Nat) (w g y a b r p q : Int) (i : Int) : Heap := [bkG gs T, bkI cs U, bkW nm w g y n a b r p q k]
theorem rcl_3 (nm : ByteArray) (gs cs : List Int) (n k : Nat) (T U : Nat) (w g y a b r p q : Int) (hn1 : ¬ (n : Int) < 1) (hn2 : ¬ 12 < n) (hk : ¬ 256 < k) (hz : n * 5 ≤ gs.length) (hnm : Ret cfx 87 [.raw (.string nm)] (.raw (.bool true))) (hs1 : M.btw w 65536 4194304 = true) (hs2 : M.btw g 65536 4194304 = true) (hs3 : M.btw y 0 ((if g < w then g else w).tdiv 4) = true) (hzc : k * 3 ≤ cs.length) (hr : M.btw r 1 8192 = true) (ha : M.btw a 0 4194304 = true) (hb : M.btw b 0 4194304 = true) (hp1 : ¬ p < 1) (hp2 : ¬ 16 < p) (hq1 : ¬ q < 1) (hq2 : ¬ 16 < q) (hpq : 0 ≤ p * q ∧ p * q ≤ 256) (hkk : (k : Int) = p * q) (hR0 : (zq160 nm gs cs n k T U w g y a b r p q)) (i : Int) (hi1 : 0 ≤ i) (f0 : ¬i < (k : Int)) : Runs cfx 0 3 none (loopOf cfx.P 45 1) (rcl_T nm gs cs n k T U w g y a b r p q i) (rcl_H nm gs cs n k T U w g y a b r p q i) (Ex.exit 2) (rcl_T3 nm gs cs n k T U w g y a b r p q i) (rcl_H3 nm gs cs n k T U w g y a b r p q i) := by
  refine Runs.post (t1 := (catV [lwA nm w g y n a b r p q k, .ptr 2 0, iV 0, iV (n : Int), iV i] (anyR 5 113 (catV [iV i, .ptr 2 10, .slo 1 k, iV (k : Int), V.raw (.bool (decide (i < (k : Int))))] (anyR 123 101 []))))) (h1 := [bkG gs T, bkI cs U, bkW nm w g y n a b r p q k]) (body_of cfx_mixed cfx_call zz (rnd := none) (fi := 0) (k := 0) (n := 40) (n0 := 3) (ans := [zF]) (cons := [(decide (i < (k : Int)) = false)]) zk
    ⟨zdo, trivial⟩ zb zb noRnd (noRanges zk)) zt4
end Go.Proofs.Ytmelbcmfahcffaa
end
section
namespace Go.Proofs.Ytmelbcmfahcffaa.M
def whole (n d : Int) : Int := (2 * n + d) / (2 * d)
def rest (n d : Int) : Int := n - whole n d * d
def cmp (a b : Int) : Int := if a < b then -1 else if b < a then 1 else 0
theorem cmp_lt {a b : Int} (h : a < b) : cmp a b = -1 := by unfold cmp; rw [if_pos h]
theorem cmp_gt {a b : Int} (h : b < a) : cmp a b = 1 := by unfold cmp; rw [if_neg (by omega), if_pos h]
theorem cmp_eq (a : Int) : cmp a a = 0 := by unfold cmp; rw [if_neg (by omega), if_neg (by omega)]
def fits (a : Int) : Bool := decide (-4194304 ≤ a ∧ a ≤ 4194304)
theorem fits_yes {a : Int} (h : -4194304 ≤ a ∧ a ≤ 4194304) : fits a = true := by unfold fits; simpa using h
theorem fits_no {a : Int} (h : ¬ (-4194304 ≤ a ∧ a ≤ 4194304)) : fits a = false := by unfold fits; simpa using h
def sq (x y u v : Int) : Int := (u - x) * (u - x) + (v - y) * (v - y)
theorem mul_bd (a b A B : Int) (h1 : -A ≤ a) (h2 : a ≤ A) (h3 : -B ≤ b) (h4 : b ≤ B) : -(A * B) ≤ a * b ∧ a * b ≤ A * B := by
  have e1 : 0 ≤ (A - a) * (B + b) := Int.mul_nonneg (by omega) (by omega)
  have e2 : 0 ≤ (A + a) * (B - b) := Int.mul_nonneg (by omega) (by omega)
  have e3 : 0 ≤ (A - a) * (B - b) := Int.mul_nonneg (by omega) (by omega)
  have e4 : 0 ≤ (A + a) * (B + b) := Int.mul_nonneg (by omega) (by omega)
  constructor <;> grind
theorem sq_nonneg (a : Int) : 0 ≤ a * a := by
  rcases Int.le_total 0 a with h | h
  · exact Int.mul_nonneg h h
  · have := Int.mul_nonneg (a := -a) (b := -a) (by omega) (by omega); grind
theorem sq_le {a b : Int} (ha : 0 ≤ a) (h : a ≤ b) : a * a ≤ b * b := Int.mul_le_mul h h ha (by omega)
def okAll (ps : List (Int × Int)) : Bool := ps.all fun p => fits p.1 && fits p.2
def chk (ps : List (Int × Int)) : Int := if okAll ps then 0 else 2
theorem okAll_take_succ (ps : List (Int × Int)) (k : Nat) (h : k < ps.length) : okAll (ps.take (k + 1)) = (okAll (ps.take k) && (fits (ps.getD k (0, 0)).1 && fits (ps.getD k (0, 0)).2)) := by
  unfold okAll
  rw [List.take_succ_eq_append_getElem h, List.all_append]
  simp [List.getD, h]
theorem okAll_of_take (ps : List (Int × Int)) (k : Nat) (h : okAll (ps.take k) = false) : okAll ps = false := by
  unfold okAll at *
  rw [List.all_eq_false] at *
  obtain ⟨x, hx, hn⟩ := h
  exact ⟨x, List.mem_of_mem_take hx, hn⟩
def hi (z : Int) : Int := z / 18446744073709551616
def lo (z : Int) : Int := z % 18446744073709551616
theorem hilo (z : Int) : 18446744073709551616 * hi z + lo z = z := by unfold hi lo; exact Int.mul_ediv_add_emod z _
theorem lo_bd (z : Int) : 0 ≤ lo z ∧ lo z < 18446744073709551616 := by unfold lo; omega
theorem hilo_inj {x y : Int} (h1 : hi x = hi y) (h2 : lo x = lo y) : x = y := by have := hilo x; have := hilo y; omega
theorem cmp_hi {x y : Int} (h : hi x ≠ hi y) : cmp (hi x) (hi y) = cmp x y := by
  have a := hilo x
  have b := hilo y
  have c := lo_bd x
  have d := lo_bd y
  rcases Int.lt_trichotomy (hi x) (hi y) with h1 | h1 | h1
  · rw [cmp_lt h1, cmp_lt (by omega)]
  · exact absurd h1 h
  · rw [cmp_gt h1, cmp_gt (by omega)]
theorem cmp_lo {x y : Int} (h : hi x = hi y) : cmp (lo x) (lo y) = cmp x y := by
  have a := hilo x
  have b := hilo y
  rcases Int.lt_trichotomy (lo x) (lo y) with h1 | h1 | h1
  · rw [cmp_lt h1, cmp_lt (by omega)]
  · rw [h1, cmp_eq, hilo_inj h h1, cmp_eq]
  · rw [cmp_gt h1, cmp_gt (by omega)]
def g0 (z : Int) : Int := z / 2147483648 / 2147483648 / 2147483648
def g1 (z : Int) : Int := z / 2147483648 / 2147483648 % 2147483648
def g2 (z : Int) : Int := z / 2147483648 % 2147483648
def g3 (z : Int) : Int := z % 2147483648
theorem mul_range (a b A B : Int) (h1 : 0 ≤ a) (h2 : a ≤ A) (h3 : 0 ≤ b) (h4 : b ≤ B) : 0 ≤ a * b ∧ a * b ≤ A * B :=
  ⟨Int.mul_nonneg h1 h3, Int.mul_le_mul h2 h4 h3 (by omega)⟩
def left (x y u v p q : Int) : Int := (u - x) * (q - y) - (v - y) * (p - x)
def ahead (x y u v p q : Int) : Int := (u - x) * (p - x) + (v - y) * (q - y)
end Go.Proofs.Ytmelbcmfahcffaa.M
end
section
namespace Go.Proofs.Ytmelbcmfahcffaa.M
def In (x y : Int) : Prop := (-4194304 ≤ x ∧ x ≤ 4194304) ∧ (-4194304 ≤ y ∧ y ≤ 4194304)
theorem chk_cases (ps : List (Int × Int)) : (chk ps = 0 ∧ ∀ p ∈ ps, In p.1 p.2) ∨ (chk ps = 2 ∧ ∃ p ∈ ps, ¬ In p.1 p.2) := by
  unfold chk okAll
  by_cases h : ps.all (fun p => fits p.1 && fits p.2) = true
  · rw [if_pos h]
    rw [List.all_eq_true] at h
    refine .inl ⟨rfl, fun p hp => ?_⟩
    have := h p hp
    simp [fits] at this
    unfold In
    omega
  · rw [if_neg h]
    rw [Bool.not_eq_true, List.all_eq_false] at h
    obtain ⟨p, hp, hn⟩ := h
    refine .inr ⟨rfl, p, hp, fun hi => hn ?_⟩
    unfold In at hi
    simp [fits, hi]
theorem sq_bd {x y u v : Int} (h1 : In x y) (h2 : In u v) : 0 ≤ sq x y u v ∧ sq x y u v ≤ 140737488355328 := by
  unfold In at h1 h2
  obtain ⟨a1, a2⟩ := mul_bd (u - x) (u - x) 8388608 8388608 (by omega) (by omega) (by omega) (by omega)
  obtain ⟨b1, b2⟩ := mul_bd (v - y) (v - y) 8388608 8388608 (by omega) (by omega) (by omega) (by omega)
  have c1 := sq_nonneg (u - x)
  have c2 := sq_nonneg (v - y)
  unfold sq
  omega
theorem left_bd {x y u v p q : Int} (h1 : In x y) (h2 : In u v) (h3 : In p q) : -140737488355328 ≤ left x y u v p q ∧ left x y u v p q ≤ 140737488355328 := by
  unfold In at h1 h2 h3
  obtain ⟨a1, a2⟩ := mul_bd (u - x) (q - y) 8388608 8388608 (by omega) (by omega) (by omega) (by omega)
  obtain ⟨b1, b2⟩ := mul_bd (v - y) (p - x) 8388608 8388608 (by omega) (by omega) (by omega) (by omega)
  unfold left
  omega
theorem ahead_bd {x y u v p q : Int} (h1 : In x y) (h2 : In u v) (h3 : In p q) : -140737488355328 ≤ ahead x y u v p q ∧ ahead x y u v p q ≤ 140737488355328 := by
  unfold In at h1 h2 h3
  obtain ⟨a1, a2⟩ := mul_bd (u - x) (p - x) 8388608 8388608 (by omega) (by omega) (by omega) (by omega)
  obtain ⟨b1, b2⟩ := mul_bd (v - y) (q - y) 8388608 8388608 (by omega) (by omega) (by omega) (by omega)
  unfold ahead
  omega
def liesV (x y u v p q r : Int) : Int :=
  if ahead x y u v p q ≤ 0 then cmp (sq x y p q) (r * r)
  else if sq x y u v ≤ ahead x y u v p q then cmp (sq u v p q) (r * r)
  else cmp (left x y u v p q * left x y u v p q) (r * r * sq x y u v)
theorem neg_sq (a : Int) : -a * -a = a * a := by grind
end Go.Proofs.Ytmelbcmfahcffaa.M
end
section
namespace Go.Proofs.Ytmelbcmfahcffaa
open Go.ChangeShapes Go.WideShapes Go.ChangeAt Go.RowKit
theorem grow4 {w W w1 : World} (h : Below w.heap.size w W) (hb : Below W.heap.size W w1) : Below w.heap.size w w1 ∧ W.heap.size ≤ w1.heap.size ∧ (∀ b o, b < W.heap.size → w1.cell? ⟨b, o, none⟩ = W.cell? ⟨b, o, none⟩) ∧ (∀ b o, b < W.heap.size → w1.frozen? ⟨b, o, none⟩ = W.frozen? ⟨b, o, none⟩) :=
  ⟨h.trans (hb.mono h.size), hb.size, fun b o h => hb.cell (p := ⟨b, o, none⟩) h, fun b o h => hb.frozen (p := ⟨b, o, none⟩) h⟩
theorem stepB {w W w1 : World} (h : Below w.heap.size w W) (hb : Below W.heap.size W w1) : Below w.heap.size w w1 := h.trans (hb.mono h.size)
theorem nan64 (a : Int) (w : World) :
    Calls Try.prog 125 #[.int .i64 a] w fun e w' => e = .returned (.bool false) ∧ w = w' := by
  go_enter Try.func125, Try.ntmps125
  go_wp2
  go_returns
  exact ⟨rfl, rfl⟩
theorem cmp64 (a b : Int) (w : World) :
    Calls Try.prog 120 #[.int .i64 a, .int .i64 b] w fun e w' => e = .returned (.int .i64 (M.cmp a b)) ∧ w = w' := by
  rcases Int.lt_trichotomy a b with h | h | h
  · rw [M.cmp_lt h]
    go_enter Try.func120, Try.ntmps120
    go_wp2_with (go_at_call 125; refine (nan64 _ _).mono ?_; rintro e w' ⟨rfl, rfl⟩)
    go_returns
    exact ⟨rfl, rfl⟩
  · subst h
    rw [M.cmp_eq]
    go_enter Try.func120, Try.ntmps120
    go_wp2_with (go_at_call 125; refine (nan64 _ _).mono ?_; rintro e w' ⟨rfl, rfl⟩)
    go_returns
    exact ⟨rfl, rfl⟩
  · rw [M.cmp_gt h]
    go_enter Try.func120, Try.ntmps120
    go_wp2_with (go_at_call 125; refine (nan64 _ _).mono ?_; rintro e w' ⟨rfl, rfl⟩)
    go_returns
    exact ⟨rfl, rfl⟩
theorem nanu (a : Int) (w : World) :
    Calls Try.prog 128 #[.int .u64 a] w fun e w' => e = .returned (.bool false) ∧ w = w' := by
  go_enter Try.func128, Try.ntmps128
  go_wp2
  go_returns
  exact ⟨rfl, rfl⟩
theorem cmpu (a b : Int) (w : World) :
    Calls Try.prog 126 #[.int .u64 a, .int .u64 b] w fun e w' => e = .returned (.int .i64 (M.cmp a b)) ∧ w = w' := by
  rcases Int.lt_trichotomy a b with h | h | h
  · rw [M.cmp_lt h]
    go_enter Try.func126, Try.ntmps126
    go_wp2_with (go_at_call 128; refine (nanu _ _).mono ?_; rintro e w' ⟨rfl, rfl⟩)
    go_returns
    exact ⟨rfl, rfl⟩
  · subst h
    rw [M.cmp_eq]
    go_enter Try.func126, Try.ntmps126
    go_wp2_with (go_at_call 128; refine (nanu _ _).mono ?_; rintro e w' ⟨rfl, rfl⟩)
    go_returns
    exact ⟨rfl, rfl⟩
  · rw [M.cmp_gt h]
    go_enter Try.func126, Try.ntmps126
    go_wp2_with (go_at_call 128; refine (nanu _ _).mono ?_; rintro e w' ⟨rfl, rfl⟩)
    go_returns
    exact ⟨rfl, rfl⟩
theorem fits_any (a : Int) (w : World) :
    Calls Try.prog 117 #[.int .i64 a] w fun e w' => e = .returned (.bool (M.fits a)) ∧ w = w' := by
  by_cases h : -4194304 ≤ a ∧ a ≤ 4194304
  · rw [M.fits_yes h]
    obtain ⟨h1, h2⟩ := h
    go_enter Try.func117, Try.ntmps117
    go_wp2
    go_returns
    exact ⟨rfl, rfl⟩
  · rw [M.fits_no h]
    by_cases h1 : -4194304 ≤ a
    all_goals
      go_enter Try.func117, Try.ntmps117
      go_wp2
      go_returns
      exact ⟨by first | rfl | (simp; omega), rfl⟩
theorem way_any (x y u v : Int) (w : World) (hx : -16777216 ≤ x) (hx2 : x ≤ 16777216) (hy : -16777216 ≤ y) (hy2 : y ≤ 16777216) (hu : -16777216 ≤ u) (hu2 : u ≤ 16777216) (hv : -16777216 ≤ v) (hv2 : v ≤ 16777216) :
    Calls Try.prog 124 #[.agg #[.int .i64 x, .int .i64 y], .agg #[.int .i64 u, .int .i64 v]] w fun e w' => e = .returned (.agg #[.int .i64 (u - x), .int .i64 (v - y)]) ∧ ((w.alloc (.cells #[.int .i64 x, .int .i64 y] 24)).alloc (.cells #[.int .i64 u, .int .i64 v] 24)).alloc (.cells #[.int .i64 (u - x), .int .i64 (v - y)] 24) = w' := by
  go_enter Try.func124, Try.ntmps124
  go_wp2
  go_returns
  exact ⟨rfl, rfl⟩
theorem square_any (x y u v : Int) (w : World) (hx : -16777216 ≤ x) (hx2 : x ≤ 16777216) (hy : -16777216 ≤ y) (hy2 : y ≤ 16777216) (hu : -16777216 ≤ u) (hu2 : u ≤ 16777216) (hv : -16777216 ≤ v) (hv2 : v ≤ 16777216) :
    Calls Try.prog 118 #[.agg #[.int .i64 x, .int .i64 y], .agg #[.int .i64 u, .int .i64 v]] w fun e w' => e = .returned (.int .i64 (M.sq x y u v)) ∧ Below w.heap.size w w' := by
  have b1 := M.mul_bd (u - x) (u - x) 33554432 33554432 (by omega) (by omega) (by omega) (by omega)
  have b2 := M.mul_bd (v - y) (v - y) 33554432 33554432 (by omega) (by omega) (by omega) (by omega)
  obtain ⟨b3, b4⟩ := b1
  obtain ⟨b5, b6⟩ := b2
  unfold M.sq
  go_enter Try.func118, Try.ntmps118
  go_wp2_with (go_at_call 124; refine (way_any _ _ _ _ _ hx hx2 hy hy2 hu hu2 hv hv2).mono ?_; rintro e w' ⟨rfl, rfl⟩)
  go_returns
  exact ⟨rfl, by go_grown⟩
end Go.Proofs.Ytmelbcmfahcffaa
end
