/-
  Part of a claim: the reckoner and contracts.
-/
import Derived.Test.YteodlcpcgfjdcaaZba
set_option linter.unusedVariables false
set_option linter.unusedSimpArgs false
section
namespace Go.Proofs.Yteodlcpcgfjdcaa.E2
open Go Go.RowKit
theorem rangesIn_seg : ∀ (x : Code) (i : Nat) (ps : Array Tmp) (a y : Code), (rangesIn x)[i]? = some (ps, a, y) → ∀ (j : Nat) z, (rangesIn y)[j]? = some z → (rangesIn x)[i + 1 + j]? = some z
  | .rangeFunc g qs u v, 0, ps, a, y, h, j, z, hz => by
    simp only [rangesIn, List.getElem?_cons_zero, Option.some.injEq, Prod.mk.injEq] at h
    obtain ⟨_, _, rfl⟩ := h
    simp only [rangesIn]
    rw [show 0 + 1 + j = j + 1 by omega, List.getElem?_cons_succ]
    exact hz
  | .rangeFunc g qs u v, i + 1, ps, a, y, h, j, z, hz => by
    simp only [rangesIn, List.getElem?_cons_succ] at h
    have := rangesIn_seg v i ps a y h j z hz
    simp only [rangesIn]
    rw [show i + 1 + 1 + j = (i + 1 + j) + 1 by omega, List.getElem?_cons_succ]
    exact this
  | .loop x, i, ps, a, y, h, j, z, hz => rangesIn_seg x i ps a y h j z hz
  | .block _ x, i, ps, a, y, h, j, z, hz => rangesIn_seg x i ps a y h j z hz
  | .scope x, i, ps, a, y, h, j, z, hz => rangesIn_seg x i ps a y h j z hz
  | .seq u v, i, ps, a, y, h, j, z, hz => by
    simp only [rangesIn] at h ⊢
    rcases Nat.lt_or_ge i (rangesIn u).length with hlt | hge
    · rw [List.getElem?_append_left hlt] at h
      have := rangesIn_seg u i ps a y h j z hz
      rw [List.getElem?_append_left (List.getElem?_eq_some_iff.1 this).1]
      exact this
    · rw [List.getElem?_append_right hge] at h
      have := rangesIn_seg v _ ps a y h j z hz
      rw [List.getElem?_append_right (by omega), show i + 1 + j - (rangesIn u).length = i - (rangesIn u).length + 1 + j by omega]
      exact this
  | .cond _ u v, i, ps, a, y, h, j, z, hz => by
    simp only [rangesIn] at h ⊢
    rcases Nat.lt_or_ge i (rangesIn u).length with hlt | hge
    · rw [List.getElem?_append_left hlt] at h
      have := rangesIn_seg u i ps a y h j z hz
      rw [List.getElem?_append_left (List.getElem?_eq_some_iff.1 this).1]
      exact this
    · rw [List.getElem?_append_right hge] at h
      have := rangesIn_seg v _ ps a y h j z hz
      rw [List.getElem?_append_right (by omega), show i + 1 + j - (rangesIn u).length = i - (rangesIn u).length + 1 + j by omega]
      exact this
  | .skip, i, ps, a, y, h, j, z, hz => by simp [rangesIn] at h
  | .label _, i, ps, a, y, h, j, z, hz => by simp [rangesIn] at h
  | .exit _, i, ps, a, y, h, j, z, hz => by simp [rangesIn] at h
  | .ret, i, ps, a, y, h, j, z, hz => by simp [rangesIn] at h
  | .goto _, i, ps, a, y, h, j, z, hz => by simp [rangesIn] at h
  | .refuse _, i, ps, a, y, h, j, z, hz => by simp [rangesIn] at h
  | .region _ _ _, i, ps, a, y, h, j, z, hz => by simp [rangesIn] at h
theorem rangeAt_seg {P : Program} {f i : Nat} : ∀ (j : Nat) z, (rangesIn (rangeAt P f i).2.2)[j]? = some z → rangeAt P f (i + 1 + j) = z := by
  intro j z hz
  unfold rangeAt at hz ⊢
  split at hz
  · rename_i fn hf
    split at hz
    · rename_i b hb
      cases hx : (rangesIn b)[i]? with
      | none =>
        rw [List.getD_eq_getElem?_getD, hx] at hz
        simp [rangesIn] at hz
      | some x =>
        rw [List.getD_eq_getElem?_getD, hx] at hz
        have := rangesIn_seg b i x.1 x.2.1 x.2.2 hx j z hz
        rw [List.getD_eq_getElem?_getD, this]
        rfl
    · simp [rangesIn] at hz
  · simp [rangesIn] at hz
section
variable {c : Cfg}
theorem evYld_sound (hm : c.P.follows .mixedOrders = true) (hfn : ∀ f, c.fns f = true → Callable c.P f) {cf : CF} (hcf : CallOk c cf) {b : Nat} {args : List V} {h : Heap} {lim : Nat} {ans : List Ans} {out : Out} (he : evYld c cf b args h lim ans = some out) (hc : ∀ p ∈ out.cons, p) (hL : c.L ≤ lim) (hl : lim ≤ h.length) {ρ : Ren} {w : World} (RH : RelH c ρ h w) (hu : unders h.length args = true) :
    ∃ r, h[b]? = some (some (.rcd r)) ∧ args.length = (rangeAt c.P r.f r.i).1.size ∧ ∀ fn u D, w.heap[(ρ.blk b).n]? = some (.loop (r.loop c.P ρ fn u D)) →
      RoundIn Fence.wide 0 c.P (ρ.blk b).n fn (((rangeAt c.P r.f r.i).1.zip (concs ρ args).toArray).foldl (fun tmps (t, a) => tmps.setIfInBounds t a) (concs ⟨ρ.blk, u⟩ r.t).toArray) (rangeAt c.P r.f r.i).2.1 (rangeAt c.P r.f r.i).2.2 w (Post c lim ρ h w out.v out.h) := by
  unfold evYld at he
  split at he
  · rename_i r hb
    have hbl := lt_len hb
    split at he
    · rename_i hst
      split at he
      · rename_i hh
        obtain ⟨h1, h2, h3⟩ := hh
        split at he
        · rename_i o1 ho1
          split at he
          · rename_i r1 he1 hr1
            split at he
            · rename_i hst1
              split at he
              · rename_i o2 ho2
                split at he
                · rename_i r2 hr2
                  have fin : ∃ s bv, out = ⟨.raw (.bool bv), o2.h.set b (some (.rcd { r2 with st := s })), o2.ans, o1.cons ++ o2.cons⟩ ∧ ((o2.e = .normal ∧ s = .ready ∧ bv = true) ∨ (o2.e ≠ .normal ∧ s = .done o2.e ∧ bv = false)) := by
                    split at he
                    · rename_i hn
                      simp only [Option.some.injEq] at he
                      exact ⟨_, _, he.symm, .inl ⟨hn, rfl, rfl⟩⟩
                    · rename_i hn
                      simp only [Option.some.injEq] at he
                      exact ⟨_, _, he.symm, .inr ⟨fun e => hn e, rfl, rfl⟩⟩
                  obtain ⟨s, bv, rfl, hcase⟩ := fin
                  refine ⟨r, hb, h2, fun fn u D hw => ?_⟩
                  have hsco := RH.sco b _ hb
                  simp only [Blk.under] at hsco
                  generalize hps : (rangeAt c.P r.f r.i).1 = ps at *
                  -- the round's slots
                  have hT0 : (ps.zip (concs ρ args).toArray).foldl (fun tmps (x : Tmp × Value) => tmps.setIfInBounds x.1 x.2) (concs ⟨ρ.blk, u⟩ r.t).toArray = (concs ⟨ρ.blk, u⟩ ((ps.toList.zip args).foldl (fun t p => t.set p.1 p.2) r.t)).toArray ∧ ((ps.toList.zip args).foldl (fun t p => t.set p.1 p.2) r.t).all (·.slotOk h.length) = true := by
                    rw [← Array.foldl_toList, Array.toList_zip]
                    have gen : ∀ (l : List Tmp) (zl : List V) (t : List V), unders h.length zl = true → t.all (·.slotOk h.length) = true →
                        (l.zip (concs ρ zl)).foldl (fun tmps (x : Tmp × Value) => tmps.setIfInBounds x.1 x.2) (concs ⟨ρ.blk, u⟩ t).toArray = (concs ⟨ρ.blk, u⟩ ((l.zip zl).foldl (fun t p => t.set p.1 p.2) t)).toArray ∧ ((l.zip zl).foldl (fun t p => t.set p.1 p.2) t).all (·.slotOk h.length) = true := by
                      intro l
                      induction l with
                      | nil => intro zl t _ ht; exact ⟨rfl, ht⟩
                      | cons x l ih =>
                        intro zl t ha ht
                        cases zl with
                        | nil => exact ⟨by simp [concs], by simpa using ht⟩
                        | cons v zl =>
                          simp only [unders, Bool.and_eq_true] at ha
                          have ht' : (t.set x v).all (·.slotOk h.length) = true := List.all_eq_true.2 fun y hy => by
                            rcases List.mem_or_eq_of_mem_set hy with h5 | rfl
                            · exact List.all_eq_true.1 ht y h5
                            · exact V.slot_of_under _ ha.1
                          obtain ⟨i1, i2⟩ := ih zl (t.set x v) ha.2 ht'
                          refine ⟨?_, i2⟩
                          simp only [concs, List.zip_cons_cons, List.foldl_cons]
                          rw [← i1]
                          congr 1
                          rw [concs_set]
                          simp only [List.setIfInBounds_toArray]
                          rw [V.conc_agree (ρ := ρ) (ρ' := ⟨ρ.blk, u⟩) (fun _ _ => rfl) v ha.1]
                    exact gen ps.toList args r.t hu hsco
                  have RHu : RelH c ⟨ρ.blk, u⟩ h w := relH_unk RH u
                  refine roundIn_of_wpIn (F := Fence.wide) trivial ?_
                  have run1 := evCode_sound hm hcf hfn hL (rnd := some b) _ _ _ _ _ _ ho1 (fun p hp => hc p (List.mem_append_left _ hp)) hl (fun b' e => by cases e; exact hbl) (fun j x hx => by
                    rw [List.isEmpty_iff] at h3
                    rw [h3] at hx
                    simp at hx)
                  have hF : Fence.wide.inRound (ρ.blk b).n = FW (rndOf ⟨ρ.blk, u⟩ (some b)) := rfl
                  rw [hF]
                  have RT0 : RelT ⟨ρ.blk, u⟩ h.length ((ps.toList.zip args).foldl (fun t p => t.set p.1 p.2) r.t) { tmps := (ps.zip (concs ρ args).toArray).foldl (fun tmps (x : Tmp × Value) => tmps.setIfInBounds x.1 x.2) (concs ⟨ρ.blk, u⟩ r.t).toArray, defers := [] } :=
                    ⟨hT0.1, fun x hx => List.all_eq_true.1 hT0.2 x hx⟩
                  refine run1.go RT0 RHu fun ρ1 a1 w1 ms1 d1 M1 RT1 RH1 F1 => ?_
                  rw [he1]
                  have hb1 : ρ1.blk b = ρ.blk b := F1.ren b hbl
                  obtain ⟨hn1, fn1, u1, D1, g1⟩ := RH1.cell b _ hr1
                  have hbeg := run_beginRound (P := c.P) g1 (by simp only [Rec.loop, hst1]; rfl)
                  obtain ⟨p1, p2, p3⟩ := putObj_rel (lim := lim) RH1 (X := some (.rcd { r1 with st := .busy })) (o := .loop { r1.loop c.P ρ1 fn1 u1 D1 with state := .busy }) hr1 (by omega) h1 (fun B' e => by
                    cases e
                    have hsc1 : (Blk.rcd r1).under o1.h.length = true := RH1.sco b _ hr1
                    refine ⟨hsc1, fun hw' => ⟨hn1, fn1, u1, D1, hw'.trans ?_⟩⟩
                    simp only [Rec.loop, hst1, RSt.state, RSt.pend])
                  rw [hb1] at hbeg p1 p2 p3
                  refine ⟨_, hbeg, ?_⟩
                  generalize (w1.putObj (ρ.blk b).n (.loop { r1.loop c.P ρ1 fn1 u1 D1 with state := .busy })) = w2 at p1 p2 p3
                  have F12 := F1.trans (p2.fewer F1.len hl)
                  have run2 := evCode_sound hm hcf hfn hL (rnd := some b) _ _ _ _ _ _ ho2 (fun p hp => hc p (List.mem_append_right _ hp)) (by rw [List.length_set]; exact Nat.le_trans hl F1.len) (fun b' e => by cases e; rw [List.length_set]; exact Nat.lt_of_lt_of_le hbl F1.len) (fun j x hx => rangeAt_seg j x hx)
                  have RT1' : RelT ρ1 (o1.h.set b (some (.rcd { r1 with st := .busy }))).length o1.t a1 := by rw [List.length_set]; exact RT1
                  have hF' : FW (rndOf ⟨ρ.blk, u⟩ (some b)) = FW (rndOf ρ1 (some b)) := by simp only [rndOf, Option.map_some, hb1]
                  rw [hF']
                  refine run2.go RT1' p1 fun ρ2 a2 w3 ms2 d2 M2 RT2 RH2 F2 => ?_
                  have hb2 : ρ2.blk b = ρ.blk b := by rw [F2.ren b (by rw [List.length_set]; exact Nat.lt_of_lt_of_le hbl F1.len), hb1]
                  obtain ⟨hn2, fn2, u2, D2, g2⟩ := RH2.cell b _ hr2
                  rw [hb2] at g2
                  have close : ∀ (j : Option Code) , (s.state = (if j.isNone then .ready else .done)) → s.pend = j → bv = j.isNone → ∃ v w', (Instr.endRound (ρ.blk b).n j).run c.P w3 = .ok v w' ∧ Post c lim ρ h w (.raw (.bool bv)) (o2.h.set b (some (.rcd { r2 with st := s }))) (.returned v) w' := fun j j1 j2 j3 => by
                    refine ⟨_, _, run_endRound j g2, ?_⟩
                    obtain ⟨q1, q2, q3⟩ := putObj_rel (lim := lim) RH2 (X := some (.rcd { r2 with st := s })) (o := .loop { r2.loop c.P ρ2 fn2 u2 D2 with state := if j.isNone then .ready else .done, pending := j }) hr2 (by omega) h1 (fun B' e => by
                      cases e
                      have hsc2 : (Blk.rcd r2).under o2.h.length = true := RH2.sco b _ hr2
                      refine ⟨hsc2, fun hw' => ⟨hn2, fn2, u2, D2, hw'.trans ?_⟩⟩
                      simp only [Rec.loop, j1, j2])
                    rw [hb2] at q1 q2
                    have F23 := (F2.fewer (m := h.length) (by rw [List.length_set]; exact F1.len) hl).trans (q2.fewer (Nat.le_trans F1.len (by have := F2.len; rw [List.length_set] at this; exact this)) hl)
                    have Fall := F12.trans F23
                    exact ⟨⟨ρ2.blk, ρ.unk⟩, rfl, by simp only [V.conc, j3], relH_unk q1 _, (Fall.unk ρ.unk).unk0, rfl⟩
                  rcases hcase with ⟨e1, rfl, rfl⟩ | ⟨e1, rfl, rfl⟩
                  · rw [e1]
                    exact close none rfl rfl rfl
                  · cases hoe : o2.e with
                    | normal => exact absurd hoe e1
                    | exit id =>
                      rw [hoe] at close
                      exact close (some (.exit id)) rfl rfl rfl
                    | ret =>
                      rw [hoe] at close
                      exact close (some .ret) rfl rfl rfl
                · cases he
              · cases he
            · cases he
          · cases he
        · cases he
      · cases he
    · cases he
  · cases he
theorem leaves_marks {fn : Func} {tmps : Array Value} {R : Ending → World → Prop} {lim : Nat} {ρ0 ρ : Ren} {h0 h : Heap} {w0 : World} {n : Nat} : ∀ (Ds : List Nat) (w : World), Ds.Nodup → (∀ D ∈ Ds, w0.heap.size ≤ D ∧ w.heap[D]? = some (.deferred (some []))) → RelH c ρ h w → Fr lim n ρ0 h0 w0 ρ h w →
    (∀ w', RelH c ρ h w' → Fr lim n ρ0 h0 w0 ρ h w' → ∃ v, (results fn tmps).run c.P w' = .ok v w' ∧ R (.returned v) w') → LeavesInM Fence.wide 0 c.P fn tmps R (Ds.map markOf) .returning w
  | [], w, _, _, RH, F, hR => hR w RH F
  | D :: Ds, w, hnd, hD, RH, F, hR => by
    rw [List.nodup_cons] at hnd
    obtain ⟨h1, h2⟩ := hD D List.mem_cons_self
    refine ⟨by simp, .inl ⟨D, w.putObj D (.deferred none), rfl, run_takeDeferred h2, ?_⟩⟩
    have hne : ∀ i, lv ρ h i → (ρ.blk i).n ≠ D := fun i ⟨B, k1, k2⟩ e => (RH.cell i B k1).notDfr k2 (by rw [e]; exact h2)
    refine leaves_marks Ds _ hnd.2 (fun E hE => ?_) ?_ ?_ hR
    · obtain ⟨k1, k2⟩ := hD E (List.mem_cons_of_mem _ hE)
      exact ⟨k1, by rw [World.putObj_heap_other (fun e => hnd.1 (by rw [← e]; exact hE)), k2]⟩
    · exact ⟨fun i B hi => (RH.cell i B hi).move (RH.sco i B hi) (fun _ _ => rfl) fun hn => World.putObj_heap_other (hne i ⟨B, hi, hn⟩), RH.inj, RH.sco, RH.glob, RH.big, RH.base⟩
    · exact ⟨F.os, F.tape, F.output, by simpa using F.size, fun k hk hn => by rw [World.putObj_heap_other (by omega)]; exact F.blk k hk hn, F.ren, F.len, F.fresh, F.dead⟩
theorem evYlds_sound (hm : c.P.follows .mixedOrders = true) (hfn : ∀ f, c.fns f = true → Callable c.P f) {call : FuncId → List V → Heap → Nat → List Ans → Option Out}
    (hcall : ∀ f args h lim ans out, call f args h lim ans = some out → (∀ p ∈ out.cons, p) → c.L ≤ lim → lim ≤ h.length → ∀ ρ w, RelH c ρ h w → unders h.length args = true → Calls c.P f (concs ρ args).toArray w (Post c lim ρ h w out.v out.h)) : ∀ m, CallOk c ⟨call, evYlds c call m⟩
  | 0 => ⟨hcall, fun b args h lim ans out he => by cases he⟩
  | m + 1 => ⟨hcall, fun b args h lim ans out he hc hL hl ρ w RH hu => evYld_sound hm hfn (evYlds_sound hm hfn hcall m) he hc hL hl RH hu⟩
theorem evFunc_sound (hm : c.P.follows .mixedOrders = true) (hfn : ∀ f, c.fns f = true → Callable c.P f) : ∀ n f args h lim ans out, evFunc c n f args h lim ans = some out → (∀ p ∈ out.cons, p) → c.L ≤ lim → lim ≤ h.length → ∀ ρ w, RelH c ρ h w → unders h.length args = true → Calls c.P f (concs ρ args).toArray w (Post c lim ρ h w out.v out.h) := by
  intro n
  induction n with
  | zero => intro f args h lim ans out he; simp [evFunc] at he
  | succ n ih =>
    intro f args h lim ans out he hc hL hl ρ w RH hu
    simp only [evFunc] at he
    split at he
    · simp only [Option.some.injEq] at he
      subst he
      exact (hc _ List.mem_cons_self) _ _ hL hl ρ w RH hu
    · simp only [Option.some.injEq] at he
      subst he
      exact (hc _ List.mem_cons_self) ρ w RH hu
    · split at he
      · cases he
      · rename_i ans1 _
        split at he
        · cases he
        · rename_i fn hf
          split at he
          · cases he
          · rename_i code hb
            split at he
            · cases he
            · rename_i r hr
              have fin : ∀ {vs : List V}, (∀ i, r.e ≠ .exit i) → resultsV c r.t r.h fn.results.toList = some vs → out = ⟨oneOf vs, r.h, r.ans, r.cons⟩ → Calls c.P f (concs ρ args).toArray w (Post c lim ρ h w out.v out.h) := by
                intro vs hne hvs ho
                subst ho
                have hrun := evCode_sound hm (evYlds_sound hm hfn ih 3) hfn hL (rnd := none) code 0 _ _ _ _ hr hc hl (fun b e => by cases e) (fun j x hx => by
                  unfold rangeAt
                  rw [hf]
                  simp only [hb]
                  rw [Nat.zero_add, List.getD_eq_getElem?_getD, hx]
                  rfl)
                have htm : (concs ρ args).toArray ++ Array.replicate (fn.ntmps - (concs ρ args).toArray.size) undef = (concs ρ (args ++ List.replicate (fn.ntmps - args.length) (.raw undef))).toArray := by
                  apply Array.toList_inj.1
                  simp [concs_map, V.conc]
                refine (callsIn_wide (n := 0)).1 (callsIn_of_wp_marks hf hb trivial ?_)
                rw [htm]
                refine hrun.go (ρ := ρ) ⟨rfl, fun x hx => ?_⟩ RH fun ρ1 a1 w1 ms d1 M1 RT1 RH1 F1 => ?_
                · rcases List.mem_append.1 hx with h1 | h1
                  · exact V.slot_of_under _ ((unders_iff _ _).1 hu x h1)
                  · rw [List.eq_of_mem_replicate h1]; rfl
                · obtain ⟨Ds, rfl, m2, m3⟩ := M1
                  simp only [List.append_nil] at d1
                  have out1 : LeavesInM Fence.wide 0 c.P fn a1.tmps (Post c lim ρ h w (oneOf vs) r.h) (Ds.map markOf) .returning w1 := by
                    refine leaves_marks Ds w1 m2 m3 RH1 F1 fun w' RH' F' => ?_
                    obtain ⟨h1, h2⟩ := results_ok RH' RT1 hvs
                    exact ⟨_, h1, ⟨ρ1.blk, ρ.unk⟩, rfl, by rw [V.conc_agree (ρ := ρ1) (ρ' := ⟨ρ1.blk, ρ.unk⟩) (fun _ _ => rfl) _ h2], relH_unk RH' _, F'.unk _, h2⟩
                  cases he : r.e with
                  | exit i => exact absurd he (hne i)
                  | normal => show LeavesInM _ _ _ _ _ _ a1.defers _ _; rw [d1]; exact out1
                  | ret => show LeavesInM _ _ _ _ _ _ a1.defers _ _; rw [d1]; exact out1
              split at he
              · cases he
              · rename_i hne
                split at he
                · cases he
                · rename_i vs hvs
                  simp only [Option.some.injEq] at he
                  exact fin hne hvs he.symm
def Paid : List Prop → Prop
  | [] => True
  | p :: l => p ∧ Paid l
theorem Paid.all : ∀ {l : List Prop}, Paid l → ∀ p ∈ l, p
  | [], _, p, hp => by cases hp
  | q :: l, h, p, hp => by
    rcases List.mem_cons.1 hp with rfl | hp
    · exact h.1
    · exact Paid.all h.2 p hp
theorem meets_of (hm : c.P.follows .mixedOrders = true) (hfn : ∀ f, c.fns f = true → Callable c.P f) {lim : Nat} (hL : c.L ≤ lim) {n : Nat} {f : FuncId} {args : List V} {h h' : Heap} (hl : lim ≤ h.length) {ans ans' : List Ans} {v : V} {cons : List Prop}
    (he : evFunc c n f args h lim ans = some ⟨v, h', ans', cons⟩) (hc : Paid cons) : Meets c lim f args h v h' :=
  fun ρ w RH hu => evFunc_sound hm hfn n f args h lim ans _ he (fun p hp => hc.all p hp) hL hl ρ w RH hu
end
end Go.Proofs.Yteodlcpcgfjdcaa.E2
end
section
namespace Go.Proofs.Yteodlcpcgfjdcaa.E2
open Go Go.RowKit
mutual
def V.mv (τ : Nat → Nat) (nl : Nat → Bool) : V → V
  | .raw v => .raw v
  | .any k => .any k
  | .ptr b o => .ptr (τ b) o
  | .slo b l => match nl b with
    | true => .raw (.slice none 0 0)
    | false => .slo (τ b) l
  | .yld b => .yld (τ b)
  | .fn f x y => .fn f (mvs τ nl x) (mvs τ nl y)
  | .agg l => .agg (mvs τ nl l)
  | .tup l => .tup (mvs τ nl l)
  | .lit b => .lit b
def mvs (τ : Nat → Nat) (nl : Nat → Bool) : List V → List V
  | [] => []
  | x :: l => x.mv τ nl :: mvs τ nl l
end
mutual
def V.nilOk (nl : Nat → Bool) : V → Bool
  | .raw _ => true
  | .any _ => true
  | .ptr b _ => !nl b
  | .slo b l => match nl b with
    | true => l == 0
    | false => true
  | .yld b => !nl b
  | .fn _ x y => nilOks nl x && nilOks nl y
  | .agg l => nilOks nl l
  | .tup l => nilOks nl l
  | .lit _ => true
def nilOks (nl : Nat → Bool) : List V → Bool
  | [] => true
  | x :: l => x.nilOk nl && nilOks nl l
end
def Moved (τ : Nat → Nat) (nl : Nat → Bool) (ρ ρ' : Ren) : Prop := ∀ i, (nl i = true → (ρ'.blk i).nil = true) ∧ (nl i = false → ρ'.blk i = ρ.blk (τ i))
mutual
theorem V.mv_conc {τ : Nat → Nat} {nl : Nat → Bool} {ρ ρ' : Ren} (h : Moved τ nl ρ ρ') (hu : ρ'.unk = ρ.unk) : ∀ x : V, x.nilOk nl = true → x.conc ρ' = (x.mv τ nl).conc ρ
  | .raw v, _ => rfl
  | .any k, _ => by simp only [V.conc, V.mv, hu]
  | .ptr b o, hx => by
    simp only [V.nilOk, Bool.not_eq_true'] at hx
    simp only [V.conc, V.mv, (h b).2 hx]
  | .slo b l, hx => by
    simp only [V.nilOk] at hx
    simp only [V.mv]
    cases hb : nl b with
    | true =>
      rw [hb] at hx
      have : l = 0 := by simpa using hx
      subst this
      simp only [V.conc, slcOf, (h b).1 hb, and_self, if_true]
    | false => simp only [V.conc, (h b).2 hb]
  | .yld b, hx => by
    simp only [V.nilOk, Bool.not_eq_true'] at hx
    simp only [V.conc, V.mv, (h b).2 hx]
  | .fn f x y, hx => by
    simp only [V.nilOk, Bool.and_eq_true] at hx
    simp only [V.conc, V.mv, mvs_conc h hu x hx.1, mvs_conc h hu y hx.2]
  | .agg l, hx => by simp only [V.nilOk] at hx; simp only [V.conc, V.mv, mvs_conc h hu l hx]
  | .tup l, hx => by simp only [V.nilOk] at hx; simp only [V.conc, V.mv, mvs_conc h hu l hx]
  | .lit b, _ => rfl
theorem mvs_conc {τ : Nat → Nat} {nl : Nat → Bool} {ρ ρ' : Ren} (h : Moved τ nl ρ ρ') (hu : ρ'.unk = ρ.unk) : ∀ l : List V, nilOks nl l = true → concs ρ' l = concs ρ (mvs τ nl l)
  | [], _ => rfl
  | x :: l, hx => by
    simp only [nilOks, Bool.and_eq_true] at hx
    simp only [concs, mvs, V.mv_conc h hu x hx.1, mvs_conc h hu l hx.2]
end
theorem mvs_length (τ : Nat → Nat) (nl : Nat → Bool) : ∀ l : List V, (mvs τ nl l).length = l.length
  | [] => rfl
  | x :: l => by simp [mvs, mvs_length τ nl l]
theorem mvs_raw (τ : Nat → Nat) (nl : Nat → Bool) : ∀ l : List V, l.all isRawV = true → mvs τ nl l = l
  | [], _ => rfl
  | x :: l, h => by
    simp only [List.all_cons, Bool.and_eq_true] at h
    simp only [mvs, mvs_raw τ nl l h.2]
    cases x <;> first | rfl | simp [isRawV] at h
theorem nilOks_raw (nl : Nat → Bool) : ∀ l : List V, l.all isRawV = true → nilOks nl l = true
  | [], _ => rfl
  | x :: l, h => by
    simp only [List.all_cons, Bool.and_eq_true] at h
    simp only [nilOks, nilOks_raw nl l h.2, Bool.and_true]
    cases x <;> first | rfl | simp [isRawV] at h
theorem unders_raws (n : Nat) : ∀ l : List V, l.all isRawV = true → unders n l = true
  | [], _ => rfl
  | x :: l, h => by
    simp only [List.all_cons, Bool.and_eq_true] at h
    simp only [unders, unders_raws n l h.2, Bool.and_true]
    cases x <;> first | rfl | simp [isRawV] at h
def Blk.mv (τ : Nat → Nat) (nl : Nat → Bool) : Blk → Blk
  | .cells cs ty own => .cells (mvs τ nl cs) ty own
  | .rcd r => .rcd { r with t := mvs τ nl r.t }
def Blk.nilOk (nl : Nat → Bool) : Blk → Bool
  | .cells cs _ _ => nilOks nl cs
  | .rcd r => nilOks nl r.t
def Blk.le (B B' : Blk) : Prop := B = B' ∨ ∃ cs ty own, B = .cells cs ty .ro ∧ B' = .cells cs ty own
theorem BlkOk.le {P : Program} {ρ : Ren} {l : Loc} {w : World} {B B' : Blk} (hl : B.le B') (h : BlkOk P ρ l w B') : BlkOk P ρ l w B := by
  rcases hl with rfl | ⟨cs, ty, own, rfl, rfl⟩
  · exact h
  · refine ⟨h.nil, fun hn => ?_, fun sz hsz => (by cases hsz)⟩
    obtain ⟨fr, h6, _⟩ := h.row hn
    exact ⟨fr, h6, fun hro => absurd rfl hro⟩
theorem BlkOk.mv {P : Program} {τ : Nat → Nat} {nl : Nat → Bool} {ρ ρ' : Ren} (h : Moved τ nl ρ ρ') {l : Loc} {w : World} {B : Blk} {n : Nat} (hun : B.under n = true) (hn : B.nilOk nl = true) : BlkOk P ρ l w (B.mv τ nl) ↔ BlkOk P ρ' l w B := by
  cases B with
  | cells cs ty own =>
    have e : concs ρ' cs = concs ρ (mvs τ nl cs) := by
      have := mvs_conc (ρ := ρ) (ρ' := ⟨ρ'.blk, ρ.unk⟩) h rfl cs hn
      rw [← this]
      exact concs_agree (ρ := ⟨ρ'.blk, ρ.unk⟩) (ρ' := ρ') (n := n) (fun _ _ => rfl) cs hun
    constructor
    · intro hb
      refine ⟨fun hl => ?_, fun hl => ?_, fun sz hs => ?_⟩
      · have := hb.nil hl
        exact List.eq_nil_of_length_eq_zero (by rw [← mvs_length τ nl cs, this]; rfl)
      · obtain ⟨fr, h1, h2⟩ := hb.row hl
        exact ⟨fr, by rw [e]; exact h1, h2⟩
      · obtain ⟨h1, h2⟩ := hb.room sz hs
        exact ⟨h1, fun hl => by rw [← mvs_length τ nl cs]; exact h2 hl⟩
    · intro hb
      refine ⟨fun hl => ?_, fun hl => ?_, fun sz hs => ?_⟩
      · rw [hb.nil hl]; rfl
      · obtain ⟨fr, h1, h2⟩ := hb.row hl
        exact ⟨fr, by rw [← e]; exact h1, h2⟩
      · obtain ⟨h1, h2⟩ := hb.room sz hs
        exact ⟨h1, fun hl => by rw [mvs_length]; exact h2 hl⟩
  | rcd r =>
    have e : ∀ u, concs ⟨ρ'.blk, u⟩ r.t = concs ⟨ρ.blk, u⟩ (mvs τ nl r.t) := fun u => mvs_conc (ρ := ⟨ρ.blk, u⟩) (ρ' := ⟨ρ'.blk, u⟩) h rfl r.t hn
    constructor
    · rintro ⟨h1, fn, u, D, h2⟩
      refine ⟨h1, fn, u, D, ?_⟩
      rw [h2]
      simp only [Rec.loop, e u]
    · rintro ⟨h1, fn, u, D, h2⟩
      refine ⟨h1, fn, u, D, ?_⟩
      rw [h2]
      simp only [Rec.loop, e u]
def anyOwn : Nat → List V → Bool
  | _, [] => true
  | i, .any j :: l => decide (j = i) && anyOwn (i + 1) l
  | i, _ :: l => anyOwn (i + 1) l
theorem anyOwn_get : ∀ (l : List V) (k i j : Nat), anyOwn k l = true → l[i]? = some (.any j) → j = k + i
  | [], k, i, j, h, hg => by simp at hg
  | v :: l, k, 0, j, h, hg => by
    simp only [List.getElem?_cons_zero, Option.some.injEq] at hg
    subst hg
    simp only [anyOwn, Bool.and_eq_true, decide_eq_true_eq] at h
    omega
  | v :: l, k, i + 1, j, h, hg => by
    simp only [List.getElem?_cons_succ] at hg
    have h' : anyOwn (k + 1) l = true := by
      cases v with
      | any q => simp only [anyOwn, Bool.and_eq_true] at h; exact h.2
      | _ => simpa only [anyOwn] using h
    have := anyOwn_get l (k + 1) i j h' hg
    omega
def hideBy : List V → List V → List V
  | .any k :: l, _ :: m => .any k :: hideBy l m
  | _ :: l, v :: m => v :: hideBy l m
  | [], m => m
  | _, [] => []
theorem hideBy_get : ∀ (l m : List V), l.length = m.length → ∀ i : Nat, (hideBy l m)[i]? = (match (l[i]? : Option V) with
    | some (V.any k) => some (V.any k)
    | _ => m[i]?)
  | [], [], _, i => by simp [hideBy]
  | [], y :: m, h, i => by simp at h
  | x :: l, [], h, i => by simp at h
  | x :: l, y :: m, h, 0 => by cases x <;> simp [hideBy]
  | x :: l, y :: m, h, i + 1 => by
    have := hideBy_get l m (by simpa using h) i
    cases x <;> simpa [hideBy] using this
def tauOf (n0 : Nat) (ks : List (Option Nat)) (j : Nat) : Nat := if j < n0 then j else (ks[j - n0]?).join.getD 0
def nlOf (n0 : Nat) (ks : List (Option Nat)) (j : Nat) : Bool := decide (n0 ≤ j) && (match ks[j - n0]? with
  | some none => true
  | _ => false)
def keysOk (lim n0 m : Nat) (H : Heap) : List (Option Nat) → Bool
  | [] => true
  | none :: l => keysOk lim n0 m H l
  | some b :: l => decide (lim ≤ b) && decide (b < m) && (!decide (b < n0) || match H[b]? with
      | some (some _) => false
      | _ => true) && !l.contains (some b) && keysOk lim n0 m H l
def nilB : Blk → Prop
  | .cells [] _ (.row _) => True
  | _ => False
def entries (τ : Nat → Nat) (nl : Nat → Bool) (h : Heap) (m : Nat) : Nat → Heap → List Prop
  | _, [] => []
  | j, none :: l => entries τ nl h m (j + 1) l
  | j, some B :: l => (match nl j with
      | true => nilB B
      | false => h[τ j]? = some (some (B.mv τ nl))) :: (B.under m = true) :: (B.nilOk nl = true) :: entries τ nl h m (j + 1) l
theorem entries_get {τ : Nat → Nat} {nl : Nat → Bool} {h : Heap} {m : Nat} : ∀ (l : Heap) (j : Nat), Paid (entries τ nl h m j l) → ∀ i B, l[i]? = some (some B) → (match nl (j + i) with
      | true => nilB B
      | false => h[τ (j + i)]? = some (some (B.mv τ nl))) ∧ B.under m = true ∧ B.nilOk nl = true
  | [], j, hp, i, B, hB => by simp at hB
  | none :: l, j, hp, 0, B, hB => by simp at hB
  | none :: l, j, hp, i + 1, B, hB => by
    have := entries_get l (j + 1) hp i B (by simpa using hB)
    rwa [show j + 1 + i = j + (i + 1) by omega] at this
  | some C :: l, j, hp, 0, B, hB => by
    simp only [List.getElem?_cons_zero, Option.some.injEq] at hB
    subst hB
    exact ⟨hp.1, hp.2.1, hp.2.2.1⟩
  | some C :: l, j, hp, i + 1, B, hB => by
    have := entries_get l (j + 1) hp.2.2.2 i B (by simpa using hB)
    rwa [show j + 1 + i = j + (i + 1) by omega] at this
theorem keysOk_get {lim n0 m : Nat} {H : Heap} : ∀ (ks : List (Option Nat)), keysOk lim n0 m H ks = true → (∀ (i b : Nat), ks[i]? = some (some b) → lim ≤ b ∧ b < m ∧ (b < n0 → ∀ B, H[b]? ≠ some (some B))) ∧ ∀ (i j b : Nat), ks[i]? = some (some b) → ks[j]? = some (some b) → i = j
  | [], _ => ⟨fun i b h => by simp at h, fun i j b h => by simp at h⟩
  | none :: l, h => by
    obtain ⟨h1, h2⟩ := keysOk_get l h
    refine ⟨fun i b hi => ?_, fun i j b hi hj => ?_⟩
    · cases i with
      | zero => simp at hi
      | succ i => exact h1 i b (by simpa using hi)
    · cases i with
      | zero => simp at hi
      | succ i => cases j with
        | zero => simp at hj
        | succ j => rw [h2 i j b (by simpa using hi) (by simpa using hj)]
  | some x :: l, h => by
    simp only [keysOk, Bool.and_eq_true, decide_eq_true_eq, Bool.or_eq_true, Bool.not_eq_true', decide_eq_false_iff_not] at h
    obtain ⟨⟨⟨⟨k1, k2⟩, k3⟩, k4⟩, k5⟩ := h
    obtain ⟨h1, h2⟩ := keysOk_get l k5
    have no : ∀ i : Nat, l[i]? ≠ some (some x) := fun i hi => by
      have := List.mem_of_getElem? hi
      rw [← List.contains_iff_mem, k4] at this
      cases this
    refine ⟨fun i b hi => ?_, fun i j b hi hj => ?_⟩
    · cases i with
      | zero =>
        simp only [List.getElem?_cons_zero, Option.some.injEq] at hi
        subst hi
        refine ⟨k1, k2, fun hlt B hB => ?_⟩
        rcases k3 with k3 | k3
        · exact k3 hlt
        · rw [hB] at k3; cases k3
      | succ i => exact h1 i b (by simpa using hi)
    · cases i with
      | zero =>
        simp only [List.getElem?_cons_zero, Option.some.injEq] at hi
        cases j with
        | zero => rfl
        | succ j =>
          subst hi
          exact absurd (by simpa using hj) (no j)
      | succ i => cases j with
        | zero =>
          simp only [List.getElem?_cons_zero, Option.some.injEq] at hj
          subst hj
          exact absurd (by simpa using hi) (no i)
        | succ j => rw [h2 i j b (by simpa using hi) (by simpa using hj)]
section
variable {c : Cfg} {lim n0 : Nat}
theorem reshape (hG : ∀ p ∈ c.G, p.2 < c.L) (ks : List (Option Nat)) {t T : List V} {h H : Heap} (hlen : n0 ≤ h.length) (hH : H.length = n0 + ks.length) (hl : lim ≤ n0) (hL : c.L ≤ lim)
    (hT : mvs (tauOf n0 ks) (nlOf n0 ks) T = hideBy T t) (hTl : T.length = t.length) (hTo : (anyOwn 0 T && T.all (·.slotOk H.length) && nilOks (nlOf n0 ks) T) = true) (hB : ∀ i, i < c.L → H[i]? = h[i]?) (hk : keysOk lim n0 h.length H ks = true) (hE : Paid (entries (tauOf n0 ks) (nlOf n0 ks) h H.length 0 H))
    {ρ : Ren} {a : Act} {w : World} (RT : RelT ρ h.length t a) (RH : RelH c ρ h w) : ∃ ρ', RelT ρ' H.length T a ∧ RelH c ρ' H w ∧ Fr lim n0 ρ h w ρ' H w := by
  generalize hτ : tauOf n0 ks = τ at *
  generalize hn : nlOf n0 ks = nl at *
  simp only [Bool.and_eq_true] at hTo
  obtain ⟨⟨t1, t2⟩, t3⟩ := hTo
  obtain ⟨k1, k2⟩ := keysOk_get ks hk
  have low : ∀ i, i < n0 → τ i = i ∧ nl i = false := fun i hi => by
    rw [← hτ, ← hn]
    refine ⟨by simp [tauOf, hi], ?_⟩
    simp only [nlOf, Bool.and_eq_false_iff, decide_eq_false_iff_not]
    exact .inl (by omega)
  have ent : ∀ i B, H[i]? = some (some B) → (match nl i with
      | true => nilB B
      | false => h[τ i]? = some (some (B.mv τ nl))) ∧ B.under H.length = true ∧ B.nilOk nl = true := fun i B hB => by
    have := entries_get H 0 hE i B hB
    rwa [Nat.zero_add] at this
  generalize hρ : (⟨fun j => if nl j = true then ⟨0, [], [], 0, true⟩ else ρ.blk (τ j), fun s => a.tmps.getD s undef⟩ : Ren) = ρ'
  have mv : Moved τ nl ρ ρ' := fun i => ⟨fun h => by rw [← hρ]; simp [h], fun h => by rw [← hρ]; simp [h]⟩
  -- where a live name comes from
  have from_ : ∀ i B, H[i]? = some (some B) → (ρ'.blk i).nil = false → ρ'.blk i = ρ.blk (τ i) ∧ h[τ i]? = some (some (B.mv τ nl)) := fun i B hB hnil => by
    cases hni : nl i with
    | true => rw [(mv i).1 hni] at hnil; cases hnil
    | false =>
      have := (ent i B hB).1
      rw [hni] at this
      exact ⟨(mv i).2 hni, this⟩
  have wr : ∀ B : Blk, (B.mv τ nl).wr = B.wr := fun B => by
    cases B with
    | cells cs ty own => cases own <;> rfl
    | rcd r => rfl
  have flw : ∀ i, lw ρ' H i → lw ρ h (τ i) ∧ ρ'.blk i = ρ.blk (τ i) := fun i ⟨B, b1, b2, b3⟩ => by
    obtain ⟨e1, e2⟩ := from_ i B b1 b3
    exact ⟨⟨_, e2, by rw [wr]; exact b2, by rw [← e1]; exact b3⟩, e1⟩
  have flv : ∀ i, lv ρ' H i → lv ρ h (τ i) ∧ ρ'.blk i = ρ.blk (τ i) := fun i ⟨B, b1, b3⟩ => by
    obtain ⟨e1, e2⟩ := from_ i B b1 b3
    exact ⟨⟨_, e2, by rw [← e1]; exact b3⟩, e1⟩
  have key : ∀ i, n0 ≤ i → lv ρ' H i → ∃ b, ks[i - n0]? = some (some b) ∧ τ i = b := fun i hi ⟨B, b1, b3⟩ => by
    have hil := lt_len b1
    cases hx : ks[i - n0]? with
    | none => rw [List.getElem?_eq_none_iff] at hx; omega
    | some x =>
      cases x with
      | none =>
        exfalso
        have : nl i = true := by
          rw [← hn]; simp [nlOf, hi, hx]
        rw [(mv i).1 this] at b3
        cases b3
      | some b => exact ⟨b, rfl, by rw [← hτ]; simp only [tauOf]; rw [if_neg (by omega), hx]; rfl⟩
  refine ⟨ρ', ⟨?_, fun x hx => List.all_eq_true.1 t2 x hx⟩, ⟨fun i B hB => ?_, fun i j hi hj he => ?_, fun i B hB => (ent i B hB).2.1, fun p hp => ?_, by rw [hH]; omega, fun i hi => by rw [hB i hi]; exact RH.base i hi⟩, ?_⟩
  · apply Array.ext_getElem?
    intro s
    have et : ∀ l : List Value, l.toArray[s]? = l[s]? := fun l => List.getElem?_toArray
    rw [et (concs ρ' T), concs_get]
    have h0 : a.tmps[s]? = (t[s]?).map (·.conc ρ) := by rw [RT.tmps, et (concs ρ t)]; exact concs_get ρ t s
    cases hv : T[s]? with
    | none =>
      rw [h0, List.getElem?_eq_none (by rw [List.getElem?_eq_none_iff] at hv; omega)]
      rfl
    | some v =>
      simp only [Option.map_some]
      have hs : s < t.length := by rw [← hTl]; exact (List.getElem?_eq_some_iff.1 hv).1
      have hg := hideBy_get T t hTl s
      rw [← hT, hv] at hg
      have hmg : (mvs τ nl T)[s]? = some (v.mv τ nl) := by
        have gen : ∀ (l : List V) (i : Nat), (mvs τ nl l)[i]? = (l[i]?).map (·.mv τ nl) := by
          intro l
          induction l with
          | nil => intro i; simp [mvs]
          | cons x l ih => intro i; cases i <;> simp [mvs, ih]
        rw [gen, hv]; rfl
      rw [hmg] at hg
      have hvm := List.mem_of_getElem? hv
      have hok := List.all_eq_true.1 t2 v hvm
      have hnil : v.nilOk nl = true := by
        have gen : ∀ l : List V, nilOks nl l = true → ∀ x ∈ l, x.nilOk nl = true := by
          intro l
          induction l with
          | nil => intro _ x hx; cases hx
          | cons y l ih =>
            intro hl x hx
            simp only [nilOks, Bool.and_eq_true] at hl
            rcases List.mem_cons.1 hx with rfl | hx
            · exact hl.1
            · exact ih hl.2 x hx
        exact gen T t3 v hvm
      cases v with
      | any k =>
        have := anyOwn_get T 0 s k t1 hv
        rw [Nat.zero_add] at this
        subst this
        rw [← hρ]
        simp only [V.conc]
        have hsz : k < a.tmps.size := by rw [RT.tmps]; simpa [concs_length] using hs
        simp [hsz]
      | _ =>
        rw [h0]
        simp only at hg
        rw [← hg]
        simp only [Option.map_some]
        have e1 := V.mv_conc (ρ := ρ) (ρ' := ⟨ρ'.blk, ρ.unk⟩) mv rfl _ hnil
        rw [← e1]
        exact congrArg some (V.conc_agree (ρ := ρ') (ρ' := ⟨ρ'.blk, ρ.unk⟩) (n := H.length) (fun _ _ => rfl) _ hok)
  · obtain ⟨e1, e2, e3⟩ := ent i B hB
    cases hni : nl i with
    | true =>
      rw [hni] at e1
      have hnil := (mv i).1 hni
      cases B with
      | cells cs ty own =>
        cases cs with
        | nil =>
          cases own with
          | row sz =>
            refine ⟨fun _ => rfl, fun h => (by rw [hnil] at h; cases h), fun _ _ => ⟨?_, fun h => (by rw [hnil] at h; cases h)⟩⟩
            rw [← hρ]; simp [hni]
          | _ => exact e1.elim
        | cons _ _ => exact e1.elim
      | rcd r => exact e1.elim
    | false =>
      rw [hni] at e1
      rw [(mv i).2 hni]
      exact (BlkOk.mv mv e2 e3).1 (RH.cell _ _ e1)
  · obtain ⟨a1, a2⟩ := flw i hi
    obtain ⟨b1, b2⟩ := flv j hj
    have e := RH.inj _ _ a1 b1 (by rw [← a2, ← b2]; exact he)
    have gone : ∀ x y, x < n0 → n0 ≤ y → lv ρ' H x → lv ρ' H y → τ x = τ y → False := fun x y hx hy hlx hly e => by
      obtain ⟨b, e1, e2⟩ := key y hy hly
      rw [(low x hx).1, e2] at e
      subst e
      obtain ⟨B, hB, _⟩ := hlx
      exact (k1 _ _ e1).2.2 hx B hB
    rcases Nat.lt_or_ge i n0 with hi0 | hi0 <;> rcases Nat.lt_or_ge j n0 with hj0 | hj0
    · rwa [(low i hi0).1, (low j hj0).1] at e
    · exact (gone i j hi0 hj0 hi.lv hj e).elim
    · exact (gone j i hj0 hi0 hj hi.lv e.symm).elim
    · obtain ⟨x, x1, x2⟩ := key i hi0 hi.lv
      obtain ⟨y, y1, y2⟩ := key j hj0 hj
      rw [x2, y2] at e
      subst e
      have := k2 _ _ _ x1 y1
      omega
  · obtain ⟨g1, g2, g3⟩ := RH.glob p hp
    have h1 := hG p hp
    have h2 := low p.2 (by omega)
    have e : ρ'.blk p.2 = ρ.blk p.2 := by rw [(mv p.2).2 h2.2, h2.1]
    exact ⟨by rw [e, g1], by rw [e, g2], by rw [hH]; omega⟩
  · refine ⟨rfl, rfl, rfl, Nat.le_refl _, fun _ _ _ => rfl, fun i hi => ?_, by omega, fun i hi hlw => ?_, fun i hi hlw => ?_⟩
    · rw [(mv i).2 (low i hi).2, (low i hi).1]
    · obtain ⟨a1, a2⟩ := flw i hlw
      obtain ⟨b, e1, e2⟩ := key i hi hlw.lv
      exact .inr ⟨τ i, by rw [e2]; exact (k1 _ _ e1).1, a1, by rw [a2]⟩
    · have := (flw i hlw).1
      rwa [(low i hi).1] at this
theorem Runs.pre {rnd : Option Nat} {code : Code} {t T T' : List V} {h H H' : Heap} {e : Ex} (hb : ∀ b, rnd = some b → b < n0) (hr : ∀ {ρ : Ren} {a : Act} {w : World}, RelT ρ h.length t a → RelH c ρ h w → ∃ ρ', RelT ρ' H.length T a ∧ RelH c ρ' H w ∧ Fr lim n0 ρ h w ρ' H w) (hs : Runs c lim n0 rnd code T H e T' H') : Runs c lim n0 rnd code t h e T' H' := by
  intro ρ a w RT RH
  obtain ⟨ρ1, RT1, RH1, F1⟩ := hr RT RH
  have := hs ρ1 a w RT1 RH1
  rw [rndOf_ren hb F1.ren] at this
  exact wpIn_mono this fun z a2 w2 ⟨hz, ρ2, ms, d, M, RT2, RH2, F2⟩ => ⟨hz, ρ2, ms, d, M, RT2, RH2, F1.trans F2⟩
theorem Runs.post {rnd : Option Nat} {code : Code} {t t1 T : List V} {h h1 H : Heap} {e : Ex} (hs : Runs c lim n0 rnd code t h e t1 h1) (hr : ∀ {ρ : Ren} {a : Act} {w : World}, RelT ρ h1.length t1 a → RelH c ρ h1 w → ∃ ρ', RelT ρ' H.length T a ∧ RelH c ρ' H w ∧ Fr lim n0 ρ h1 w ρ' H w) : Runs c lim n0 rnd code t h e T H := by
  intro ρ a w RT RH
  exact wpIn_mono (hs ρ a w RT RH) fun z a2 w2 ⟨hz, ρ2, ms, d, M, RT2, RH2, F2⟩ => by
    obtain ⟨ρ3, RT3, RH3, F3⟩ := hr RT2 RH2
    exact ⟨hz, ρ3, ms, d, M, RT3, RH3, F2.trans F3⟩
end
end Go.Proofs.Yteodlcpcgfjdcaa.E2
end
section
namespace Go.Proofs.Yteodlcpcgfjdcaa.E2
open Go Go.RowKit
def nf : Nat → Bool := fun _ => false
mutual
theorem V.nilOk_nf : ∀ x : V, x.nilOk nf = true
  | .raw v => rfl
  | .any k => rfl
  | .ptr b o => rfl
  | .slo b l => rfl
  | .yld b => rfl
  | .fn f x y => by simp only [V.nilOk, nilOks_nf x, nilOks_nf y, Bool.and_self]
  | .agg l => by simp only [V.nilOk, nilOks_nf l]
  | .tup l => by simp only [V.nilOk, nilOks_nf l]
  | .lit b => rfl
theorem nilOks_nf : ∀ l : List V, nilOks nf l = true
  | [] => rfl
  | x :: l => by simp only [nilOks, V.nilOk_nf x, nilOks_nf l, Bool.and_self]
end
theorem Blk.nilOk_nf (B : Blk) : B.nilOk nf = true := by
  cases B with
  | cells cs ty own => exact nilOks_nf cs
  | rcd r => exact nilOks_nf r.t
mutual
theorem V.mv_under {τ : Nat → Nat} {n m : Nat} (h : ∀ b, b < n → τ b < m) : ∀ x : V, x.under n = true → (x.mv τ nf).under m = true
  | .raw v, _ => rfl
  | .any k, h => by simp [V.under] at h
  | .ptr b o, hx => by simp only [V.under, V.mv, decide_eq_true_eq] at *; exact h b hx
  | .slo b l, hx => by simp only [V.under, V.mv, nf, decide_eq_true_eq] at *; exact h b hx
  | .yld b, hx => by simp only [V.under, V.mv, decide_eq_true_eq] at *; exact h b hx
  | .fn f x y, hx => by
    simp only [V.under, V.mv, Bool.and_eq_true] at *
    exact ⟨mvs_under h x hx.1, mvs_under h y hx.2⟩
  | .agg l, hx => by simp only [V.under, V.mv] at *; exact mvs_under h l hx
  | .tup l, hx => by simp only [V.under, V.mv] at *; exact mvs_under h l hx
  | .lit b, _ => rfl
theorem mvs_under {τ : Nat → Nat} {n m : Nat} (h : ∀ b, b < n → τ b < m) : ∀ l : List V, unders n l = true → unders m (mvs τ nf l) = true
  | [], _ => rfl
  | x :: l, hx => by
    simp only [unders, mvs, Bool.and_eq_true] at *
    exact ⟨V.mv_under h x hx.1, mvs_under h l hx.2⟩
end
theorem V.mv_slotOk {τ : Nat → Nat} {n m : Nat} (h : ∀ b, b < n → τ b < m) (x : V) (hx : x.slotOk n = true) : (x.mv τ nf).slotOk m = true := by
  cases x <;> first | rfl | exact V.slot_of_under _ (V.mv_under h _ hx)
theorem Blk.mv_under {τ : Nat → Nat} {n m : Nat} (h : ∀ b, b < n → τ b < m) (B : Blk) (hB : B.under n = true) : (B.mv τ nf).under m = true := by
  cases B with
  | cells cs ty own => exact mvs_under h cs hB
  | rcd r =>
    simp only [Blk.under, Blk.mv, List.all_eq_true] at hB ⊢
    have gen : ∀ l : List V, (∀ x ∈ l, x.slotOk n = true) → ∀ x ∈ mvs τ nf l, x.slotOk m = true := by
      intro l
      induction l with
      | nil => intro _ x hx; cases hx
      | cons y l ih =>
        intro hl x hx
        simp only [mvs, List.mem_cons] at hx
        rcases hx with rfl | hx
        · exact V.mv_slotOk h y (hl y List.mem_cons_self)
        · exact ih (fun z hz => hl z (List.mem_cons_of_mem _ hz)) x hx
    exact gen r.t hB
theorem Blk.mv_wr (τ : Nat → Nat) (nl : Nat → Bool) (B : Blk) : (B.mv τ nl).wr = B.wr := by
  cases B with
  | cells cs ty own => cases own <;> rfl
  | rcd r => rfl
def wrAt (h : Heap) (i : Nat) : Prop := ∃ B, h[i]? = some (some B) ∧ B.wr = true
section
variable {c : Cfg}
theorem embed {lim0 lim : Nat} {f : FuncId} {args : List V} {H H' h h' : Heap} {v : V} (μ : Nat → Nat) (hG : ∀ p ∈ c.G, p.2 < c.L)
    (hm : Meets c lim0 f args H v H') (hHH : H.length ≤ H'.length) (hua : unders H.length args = true) (hL0 : c.L ≤ H.length)
    (hbase : ∀ i, i < c.L → H[i]? = c.H0[i]?) (hsco : ∀ (i : Nat) (B : Blk), H[i]? = some (some B) → B.under H.length = true) (hnew : ∀ (i : Nat) (B : Blk), H.length ≤ i → H'[i]? = some (some B) → B.wr = true)
    (hlow : ∀ i, i < c.L → μ i = i) (hml : ∀ i, i < H.length → μ i < h.length)
    (hin : ∀ (i : Nat) (B : Blk), H[i]? = some (some B) → ∃ B', h[μ i]? = some (some B') ∧ (B.mv μ nf).le B' ∧ (B.wr = true → B' = B.mv μ nf))
    (hinj : ∀ i j : Nat, wrAt H i → (∃ B, H[j]? = some (some B)) → μ i = μ j → i = j) (hlim : ∀ i, lim0 ≤ i → wrAt H i → lim ≤ μ i)
    (hlen : h'.length = h.length + (H'.length - H.length)) (hb' : ∀ i, i < c.L → h'[i]? = h[i]?)
    (hout : ∀ (k : Nat) (B' : Blk), h'[k]? = some (some B') → (∃ (i : Nat) (B : Blk), H'[i]? = some (some B) ∧ k = (if i < H.length then μ i else h.length + (i - H.length)) ∧ (i < H.length → lim0 ≤ i ∧ wrAt H i) ∧ B' = B.mv (fun i => if i < H.length then μ i else h.length + (i - H.length)) nf) ∨ (k < h.length ∧ h[k]? = some (some B') ∧ ∀ i, lim0 ≤ i → wrAt H i → μ i ≠ k)) :
    Meets c lim f (mvs μ nf args) h (v.mv (fun i => if i < H.length then μ i else h.length + (i - H.length)) nf) h' := by
  intro ρ w RH hu
  generalize hν : (fun i => if i < H.length then μ i else h.length + (i - H.length)) = ν at *
  have nlow : ∀ i, i < H.length → ν i = μ i := fun i hi => by rw [← hν]; simp [hi]
  have nhigh : ∀ i, H.length ≤ i → ν i = h.length + (i - H.length) := fun i hi => by rw [← hν]; simp; omega
  have Mv : Moved μ nf ρ ⟨fun i => ρ.blk (μ i), ρ.unk⟩ := fun i => ⟨fun e => (by cases e), fun _ => rfl⟩
  have RH0 : RelH c ⟨fun i => ρ.blk (μ i), ρ.unk⟩ H w := by
    refine ⟨fun i B hB => ?_, fun i j hi hj he => ?_, hsco, fun p hp => ?_, hL0, hbase⟩
    · obtain ⟨B', b1, b2, _⟩ := hin i B hB
      exact (BlkOk.mv Mv (hsco i B hB) (Blk.nilOk_nf B)).1 ((RH.cell _ _ b1).le b2)
    · obtain ⟨B, a1, a2, a3⟩ := hi
      obtain ⟨C, d1, d3⟩ := hj
      obtain ⟨B', b1, _, b3⟩ := hin i B a1
      obtain ⟨C', e1, _, _⟩ := hin j C d1
      have := RH.inj (μ i) (μ j) ⟨B', b1, by rw [b3 a2, Blk.mv_wr]; exact a2, a3⟩ ⟨C', e1, d3⟩ he
      exact hinj i j ⟨B, a1, a2⟩ ⟨C, d1⟩ this
    · have h1 := hG p hp
      obtain ⟨g1, g2, _⟩ := RH.glob p hp
      show (ρ.blk (μ p.2)).n = p.1 ∧ (ρ.blk (μ p.2)).pre = [] ∧ _
      rw [hlow _ h1]
      exact ⟨g1, g2, by omega⟩
  have hargs : concs ρ (mvs μ nf args) = concs ⟨fun i => ρ.blk (μ i), ρ.unk⟩ args := (mvs_conc Mv rfl args (nilOks_nf args)).symm
  rw [hargs]
  refine (hm _ w RH0 hua).mono fun e w' ⟨ρ1, k1, k2, RH1, F1, k5⟩ => ?_
  generalize hρ' : (⟨fun k => if k < h.length then ρ.blk k else ρ1.blk (H.length + (k - h.length)), ρ.unk⟩ : Ren) = ρ'
  have rlow : ∀ k, k < h.length → ρ'.blk k = ρ.blk k := fun k hk => by rw [← hρ']; simp [hk]
  have rhigh : ∀ k, h.length ≤ k → ρ'.blk k = ρ1.blk (H.length + (k - h.length)) := fun k hk => by rw [← hρ']; simp; omega
  have Mv' : Moved ν nf ρ' ρ1 := fun i => ⟨fun e => (by cases e), fun _ => (by
    rcases Nat.lt_or_ge i H.length with hi | hi
    · rw [nlow i hi, rlow _ (hml i hi), F1.ren i hi]
    · rw [nhigh i hi, rhigh _ (by omega)]
      congr 1
      omega)⟩
  have hlwH : ∀ i, lw ⟨fun i => ρ.blk (μ i), ρ.unk⟩ H i → lw ρ h (μ i) ∧ wrAt H i := fun i ⟨B, a1, a2, a3⟩ => by
    obtain ⟨B', b1, _, b3⟩ := hin i B a1
    exact ⟨⟨B', b1, by rw [b3 a2, Blk.mv_wr]; exact a2, a3⟩, B, a1, a2⟩
  -- entries that stay
  have stay : ∀ k B, h[k]? = some (some B) → (ρ.blk k).nil = false → (∀ i, lim0 ≤ i → wrAt H i → μ i ≠ k) → w'.heap[(ρ.blk k).n]? = w.heap[(ρ.blk k).n]? := fun k B hB hn hne => by
    refine F1.blk _ (RH.lt ⟨B, hB, hn⟩) fun i hi hlwi e => ?_
    obtain ⟨q1, q2⟩ := hlwH i hlwi
    exact hne i hi q2 (RH.inj _ _ q1 ⟨B, hB, hn⟩ e)
  have fresh : ∀ i, H.length ≤ i → lw ρ1 H' i → w.heap.size ≤ (ρ1.blk i).n ∨ ∃ j, lim ≤ μ j ∧ lw ρ h (μ j) ∧ lim0 ≤ j ∧ wrAt H j ∧ (ρ1.blk i).n = (ρ.blk (μ j)).n := fun i hi hlwi => by
    rcases F1.fresh i hi hlwi with q | ⟨j, j1, j2, j3⟩
    · exact .inl q
    · obtain ⟨q1, q2⟩ := hlwH j j2
      exact .inr ⟨j, hlim j j1 q2, q1, j1, q2, j3⟩
  have kind : ∀ k, lv ρ' h' k → ∀ B', h'[k]? = some (some B') → (∃ i B, H'[i]? = some (some B) ∧ k = ν i ∧ (i < H.length → lim0 ≤ i ∧ wrAt H i) ∧ B' = B.mv ν nf ∧ ρ'.blk k = ρ1.blk i ∧ lv ρ1 H' i ∧ (B'.wr = true → lw ρ1 H' i)) ∨ (k < h.length ∧ h[k]? = some (some B') ∧ (∀ i, lim0 ≤ i → wrAt H i → μ i ≠ k) ∧ ρ'.blk k = ρ.blk k ∧ lv ρ h k) := fun k ⟨X, x1, x2⟩ B' hB' => by
    obtain rfl : X = B' := Option.some.inj (Option.some.inj (x1.symm.trans hB'))
    rcases hout k X hB' with ⟨i, B, q1, q2, q3, q4⟩ | ⟨q1, q2, q3⟩
    · have q2' : k = ν i := by rw [q2, ← hν]
      have hb : ρ'.blk k = ρ1.blk i := by rw [q2']; exact ((Mv' i).2 rfl).symm
      refine .inl ⟨i, B, q1, q2', q3, q4, hb, ⟨B, q1, by rw [← hb]; exact x2⟩, fun hw => ⟨B, q1, ?_, by rw [← hb]; exact x2⟩⟩
      rw [q4, Blk.mv_wr] at hw; exact hw
    · have hb := rlow k q1
      exact .inr ⟨q1, q2, q3, hb, X, q2, by rw [← hb]; exact x2⟩
  refine ⟨ρ', by rw [← hρ'], by rw [k2, V.mv_conc (ρ := ρ') (ρ' := ρ1) Mv' (by rw [k1, ← hρ']) v (V.nilOk_nf v)], ⟨fun k B' hB' => ?_, fun x y hx hy he => ?_, fun k B' hB' => ?_, fun p hp => ?_, ?_, fun i hi => by rw [hb' i hi]; exact RH.base i hi⟩, ⟨F1.os, F1.tape, F1.output, F1.size, fun k hk hn => ?_, fun k hk => rlow k hk, by omega, fun k hk hlwk => ?_, fun k hk hlwk => ?_⟩, ?_⟩
  · rcases hout k B' hB' with ⟨i, B, q1, q2, q3, q4⟩ | ⟨q1, q2, q3⟩
    · have q2' : k = ν i := by rw [q2, ← hν]
      subst q4
      rw [q2', ← (Mv' i).2 rfl]
      exact (BlkOk.mv Mv' (RH1.sco i B q1) (Blk.nilOk_nf B)).2 (RH1.cell i B q1)
    · rw [rlow k q1]
      exact (RH.cell k B' q2).move (RH.sco k B' q2) rlow fun hn => stay k B' q2 hn q3
  · obtain ⟨B, x1, x2, x3⟩ := hx
    obtain ⟨C, y1, y3⟩ := hy
    rcases kind x ⟨B, x1, x3⟩ B x1 with ⟨i, B0, p1, p2, p3, p4, p5, p6, p7⟩ | ⟨p1, p2, p3, p4, p5⟩ <;> rcases kind y ⟨C, y1, y3⟩ C y1 with ⟨j, C0, q1, q2, q3, q4, q5, q6, q7⟩ | ⟨q1, q2, q3, q4, q5⟩
    · rw [p5, q5] at he
      rw [p2, q2, RH1.inj i j (p7 x2) q6 he]
    · exfalso
      rw [p5, q4] at he
      rcases Nat.lt_or_ge i H.length with hi | hi
      · obtain ⟨r1, r2⟩ := hlwH i (F1.dead i hi (p7 x2))
        rw [F1.ren i hi] at he
        exact q3 i (p3 hi).1 r2 (RH.inj _ _ r1 q5 he)
      · rcases fresh i hi (p7 x2) with r | ⟨j, _, r2, r3, r4, r5⟩
        · have := RH.lt q5; omega
        · exact q3 j r3 r4 (RH.inj _ _ r2 q5 (r5.symm.trans he))
    · exfalso
      rw [p4, q5] at he
      have hlx : lw ρ h x := ⟨B, p2, x2, by rw [← p4]; exact x3⟩
      rcases Nat.lt_or_ge j H.length with hj | hj
      · obtain ⟨r0, D, r1, r2⟩ := q3 hj
        rw [F1.ren j hj] at he
        obtain ⟨B'', b1, _, _⟩ := hin j D r1
        have hnj : (ρ.blk (μ j)).nil = false := by
          obtain ⟨_, _, hn⟩ := q6
          rw [F1.ren j hj] at hn
          exact hn
        exact p3 j r0 ⟨D, r1, r2⟩ (RH.inj x (μ j) hlx ⟨B'', b1, hnj⟩ he).symm
      · have hlwj : lw ρ1 H' j := by
          obtain ⟨D, d1, d2⟩ := q6
          exact ⟨D, d1, hnew j D hj d1, d2⟩
        rcases fresh j hj hlwj with r | ⟨i, _, r2, r3, r4, r5⟩
        · have := RH.lt hlx.lv; omega
        · exact p3 i r3 r4 (RH.inj _ _ hlx r2.lv (he.trans r5)).symm
    · rw [p4, q4] at he
      exact RH.inj x y ⟨B, p2, x2, by rw [← p4]; exact x3⟩ q5 he
  · rw [hlen]
    rcases hout k B' hB' with ⟨i, B, q1, q2, q3, q4⟩ | ⟨q1, q2, q3⟩
    · subst q4
      refine Blk.mv_under (fun b hb => ?_) B (RH1.sco i B q1)
      rcases Nat.lt_or_ge b H.length with hb1 | hb1
      · rw [nlow b hb1]
        have := hml b hb1
        omega
      · rw [nhigh b hb1]; omega
    · exact Blk.under_mono (by omega) _ (RH.sco k B' q2)
  · obtain ⟨g1, g2, g3⟩ := RH.glob p hp
    exact ⟨by rw [rlow _ g3, g1], by rw [rlow _ g3, g2], by omega⟩
  · have := RH.big; omega
  · exact F1.blk k hk fun i hi hlwi => hn (μ i) (hlim i hi (hlwH i hlwi).2) (hlwH i hlwi).1
  · obtain ⟨B, x1, x2, x3⟩ := hlwk
    rcases kind k ⟨B, x1, x3⟩ B x1 with ⟨i, B0, p1, p2, p3, p4, p5, p6, p7⟩ | ⟨p1, p2, p3, p4, p5⟩
    · rw [p5]
      rcases Nat.lt_or_ge i H.length with hi | hi
      · rw [nlow i hi] at p2
        have := hml i hi
        omega
      · rcases fresh i hi (p7 x2) with r | ⟨j, r1, r2, _, _, r5⟩
        · exact .inl r
        · exact .inr ⟨μ j, r1, r2, r5⟩
    · omega
  · obtain ⟨B, x1, x2, x3⟩ := hlwk
    rcases kind k ⟨B, x1, x3⟩ B x1 with ⟨i, B0, p1, p2, p3, p4, p5, p6, p7⟩ | ⟨p1, p2, p3, p4, p5⟩
    · rcases Nat.lt_or_ge i H.length with hi | hi
      · have := (hlwH i (F1.dead i hi (p7 x2))).1
        rw [p2, nlow i hi]
        exact this
      · rw [nhigh i hi] at p2
        omega
    · exact ⟨B, p2, x2, by rw [← p4]; exact x3⟩
  · rw [hlen]
    refine V.mv_under (fun b hb => ?_) v k5
    rcases Nat.lt_or_ge b H.length with hb1 | hb1
    · rw [nlow b hb1]
      have := hml b hb1
      omega
    · rw [nhigh b hb1]; omega
end
end Go.Proofs.Yteodlcpcgfjdcaa.E2
end
section
namespace Go.Proofs.Yteodlcpcgfjdcaa.E2
open Go Go.RowKit
section
variable {c : Cfg}
theorem below_rel {ρ : Ren} {h : Heap} {w w' : World} (RH : RelH c ρ h w) (hb : ∀ k, k < w.heap.size → w'.heap[k]? = w.heap[k]?) : RelH c ρ h w' :=
  ⟨fun i B hi => (RH.cell i B hi).move (RH.sco i B hi) (fun _ _ => rfl) fun hn => hb _ (RH.lt ⟨B, hi, hn⟩), RH.inj, RH.sco, RH.glob, RH.big, RH.base⟩
theorem below_fr {lim : Nat} {ρ : Ren} {h : Heap} {w w' : World} (hl : lim ≤ h.length) (hb : Below w.heap.size w w') : Fr lim h.length ρ h w ρ h w' :=
  ⟨hb.os, hb.tape, hb.output, hb.size, fun k hk _ => hb.block k hk, fun _ _ => rfl, Nat.le_refl _, fun i h1 h2 => .inr ⟨i, by omega, h2, rfl⟩, fun _ _ h => h⟩
theorem fn_of_base (hH : c.H0.length = c.L) (hsc : ∀ (i : Nat) (B : Blk), c.H0[i]? = some (some B) → B.under c.L = true) (hG : ∀ p ∈ c.G, p.2 < c.L) {f : FuncId} {args : List V} {v : V} {h' : Heap}
    (hua : unders c.L args = true) (hv : v.under c.L = true) (hm : Meets c c.L f args c.H0 v h') : Ret c f args v := by
  intro h lim hL hl ρ w RH hu
  have hget : ∀ {i : Nat} {B : Blk}, c.H0[i]? = some (some B) → h[i]? = some (some B) := fun {i B} hi => by
    have := lt_len hi
    rw [RH.base i (by omega)]; exact hi
  have R0 : RelH c ρ c.H0 w := by
    refine ⟨fun i B hi => RH.cell i B (hget hi), fun i j hi hj he => ?_, fun i B hi => by rw [hH]; exact hsc i B hi, fun p hp => ⟨(RH.glob p hp).1, (RH.glob p hp).2.1, by rw [hH]; exact hG p hp⟩, by omega, fun _ _ => rfl⟩
    obtain ⟨B, a1, a2, a3⟩ := hi
    obtain ⟨C, b1, b3⟩ := hj
    exact RH.inj i j ⟨B, hget a1, a2, a3⟩ ⟨C, hget b1, b3⟩ he
  refine (hm ρ w R0 (by rw [hH]; exact hua)).mono fun e w' ⟨ρ', h1, h2, h3, F, h5⟩ => ?_
  have hblk : ∀ k, k < w.heap.size → w'.heap[k]? = w.heap[k]? := fun k hk => F.blk k hk fun i h6 h7 => by
    have := h7.lt
    omega
  have e1 : v.conc ρ' = v.conc ρ := V.conc_agree (n := c.L) (fun i hi => F.ren i (by omega)) v hv
  exact ⟨ρ, rfl, by rw [← e1]; exact h2, below_rel RH hblk, below_fr hl ⟨F.os, F.tape, F.output, F.size, fun k hk => hblk k hk⟩, V.under_mono RH.big v hv⟩
theorem fn_of (hm : c.P.follows .mixedOrders = true) (hfn : ∀ f, c.fns f = true → Callable c.P f) (hH : c.H0.length = c.L) (hsc : ∀ (i : Nat) (B : Blk), c.H0[i]? = some (some B) → B.under c.L = true) (hG : ∀ p ∈ c.G, p.2 < c.L)
    {n : Nat} {f : FuncId} {args : List V} {ans : List Ans} {v : V} {cons : List Prop} (he : (evFunc c n f args c.H0 c.L ans).map (fun o => (o.v, o.cons)) = some (v, cons)) (hua : unders c.L args = true) (hv : v.under c.L = true) (hc : Paid cons) : Ret c f args v := by
  rw [Option.map_eq_some_iff] at he
  obtain ⟨o, h1, h2⟩ := he
  obtain ⟨v', h', ans', cons'⟩ := o
  simp only [Prod.mk.injEq] at h2
  obtain ⟨rfl, rfl⟩ := h2
  exact fn_of_base hH hsc hG hua hv (meets_of hm hfn (Nat.le_refl _) (by omega) h1 hc)
theorem meets_ev (hm : c.P.follows .mixedOrders = true) (hfn : ∀ f, c.fns f = true → Callable c.P f) {lim : Nat} {H : Heap} (hL : c.L ≤ lim) (hl : lim ≤ H.length)
    {n : Nat} {f : FuncId} {args : List V} {ans : List Ans} {v : V} {h' : Heap} {cons : List Prop} (he : (evFunc c n f args H lim ans).map (fun o => (o.v, o.h, o.cons)) = some (v, h', cons)) (hc : Paid cons) : Meets c lim f args H v h' := by
  rw [Option.map_eq_some_iff] at he
  obtain ⟨o, h1, h2⟩ := he
  obtain ⟨v', h', ans', cons'⟩ := o
  simp only [Prod.mk.injEq] at h2
  obtain ⟨rfl, rfl, rfl⟩ := h2
  exact meets_of hm hfn hL hl h1 hc
theorem fn_of_calls {f : FuncId} {args : List Value} {x : Value} (h : ∀ w : World, Calls c.P f args.toArray w fun e w' => e = .returned x ∧ Below w.heap.size w w') : Ret c f (args.map .raw) (.raw x) := by
  intro h0 lim hL hl ρ w RH hu
  rw [concs_raw]
  refine (h w).mono fun e w' ⟨he, hb⟩ => ?_
  subst he
  exact ⟨ρ, rfl, rfl, below_rel RH hb.block, below_fr hl hb, rfl⟩
theorem calls_of_fn (hL : c.L = 0) (hG : c.G = []) {f : FuncId} {args : List Value} {x : Value} (h : Ret c f (args.map .raw) (.raw x)) (w : World) : Calls c.P f args.toArray w fun e w' => e = .returned x ∧ Below w.heap.size w w' := by
  have R0 : RelH c ⟨fun _ => Loc.at 0, fun _ => undef⟩ [] w := ⟨fun i B hi => by simp at hi, fun i j hi => by have := hi.lt; simp at this, fun i B hi => by simp at hi, fun p hp => (by rw [hG] at hp; cases hp), by simp [hL], fun i hi => by omega⟩
  have := h [] 0 (by omega) (Nat.le_refl _) _ w R0 (unders_raw _ _)
  rw [concs_raw] at this
  refine this.mono fun e w' ⟨ρ', _, he, _, F, _⟩ => ?_
  exact ⟨he, F.os, F.tape, F.output, F.size, fun k hk => F.blk k hk fun i _ h2 => by have := h2.lt; simp at this⟩
theorem inR_i64 {n : Int} (h1 : -9223372036854775808 ≤ n) (h2 : n ≤ 9223372036854775807) : inR .i64 n := IntWalk.i64_in n (by omega)
theorem Meets.post {lim : Nat} {f : FuncId} {args : List V} {h h1 H : Heap} {v v' : V} (hm : Meets c lim f args h v h1) (hna : v'.under H.length = true)
    (hr : ∀ {ρ : Ren} {a : Act} {w : World}, RelT ρ h1.length [v] a → RelH c ρ h1 w → ∃ ρ', RelT ρ' H.length [v'] a ∧ RelH c ρ' H w ∧ Fr lim h.length ρ h1 w ρ' H w) : Meets c lim f args h v' H := by
  intro ρ w RH hu
  refine (hm ρ w RH hu).mono fun e w' ⟨ρ1, k1, k2, RH1, F1, k5⟩ => ?_
  obtain ⟨ρ2, RT2, RH2, F2⟩ := hr (a := ⟨#[v.conc ρ1], []⟩) ⟨rfl, fun x hx => by rw [List.mem_singleton] at hx; subst hx; exact V.slot_of_under _ k5⟩ RH1
  refine ⟨⟨ρ2.blk, ρ.unk⟩, rfl, ?_, relH_unk RH2 _, (F1.trans F2).unk _, hna⟩
  have e1 : v.conc ρ1 = v'.conc ρ2 := by
    have := RT2.tmps
    simp only [concs] at this
    have h2 := congrArg Array.toList this
    simpa using h2
  rw [k2, e1, V.conc_agree (ρ := ρ2) (ρ' := ⟨ρ2.blk, ρ.unk⟩) (fun _ _ => rfl) _ hna]
def loopsIn : Code → List Code
  | .loop x => x :: loopsIn x
  | .seq x y => loopsIn x ++ loopsIn y
  | .cond _ x y => loopsIn x ++ loopsIn y
  | .block _ x => loopsIn x
  | .scope x => loopsIn x
  | .rangeFunc _ _ _ y => loopsIn y
  | _ => []
def loopOf (P : Program) (f i : Nat) : Code := match P.funcs[f]? with
  | some fn => match fn.body with
    | some b => (loopsIn b).getD i .skip
    | none => .skip
  | none => .skip
theorem body_of (hmx : c.P.follows .mixedOrders = true) (hfn : ∀ f, c.fns f = true → Callable c.P f) {lim : Nat} (hL : c.L ≤ lim) {rnd : Option Nat} {fi k n n0 : Nat} {code : Code} {T T' : List V} {H H' : Heap} {ans : List Ans} {e : Ex} {cons : List Prop}
    (he : (evCode c ⟨evFunc c n, evYlds c (evFunc c n) 3⟩ lim rnd fi code k T H ans).map (fun r => (r.e, r.t, r.h, r.cons)) = some (e, T', H', cons)) (hp : Paid cons)
    (hln : lim ≤ n0) (hnl : n0 ≤ H.length) (hb : ∀ b, rnd = some b → b < H.length) (hs : ∀ j x, (rangesIn code)[j]? = some x → rangeAt c.P fi (k + j) = x) : Runs c lim n0 rnd code T H e T' H' := by
  rw [Option.map_eq_some_iff] at he
  obtain ⟨r, h1, h2⟩ := he
  simp only [Prod.mk.injEq] at h2
  obtain ⟨rfl, rfl, rfl, rfl⟩ := h2
  exact (evCode_sound hmx (evYlds_sound hmx hfn (evFunc_sound hmx hfn n) 3) hfn hL code k _ _ _ _ h1 hp.all (Nat.le_trans hln hnl) hb hs).fewer hnl hln
theorem noRanges {P : Program} {fi k : Nat} {code : Code} (h : (rangesIn code).isEmpty = true) : ∀ j x, (rangesIn code)[j]? = some x → rangeAt P fi (k + j) = x := fun j x hx => by
  rw [List.isEmpty_iff] at h
  rw [h] at hx
  simp at hx
theorem noRnd {n : Nat} : ∀ b, (none : Option Nat) = some b → b < n := fun b e => by cases e
end
end Go.Proofs.Yteodlcpcgfjdcaa.E2
end
section
namespace Go.Proofs.Yteodlcpcgfjdcaa
open Go Go.RowKit Go.Proofs.Yteodlcpcgfjdcaa.E2
noncomputable def cfx : Cfg := ⟨Try.prog, [], 0, [], true, fun f => (Try.prog.funcs[f]?).any fun fn => !fn.body.isNone⟩
theorem cfx_mixed : cfx.P.follows .mixedOrders = true := by kernel_rfl
theorem funcs_plain2 : ((Try.prog.funcs.toList.all fun fn => !(fn.name == "runtime.NumGoroutine"))) = true := by kernel_rfl
set_option maxRecDepth 100000 in
theorem cfx_call : ∀ f, cfx.fns f = true → Callable cfx.P f := fun f hf => by
  cases hg : Try.prog.funcs[f]? with
  | none =>
    have hf' : ((Try.prog.funcs[f]?).any fun fn => !fn.body.isNone) = true := hf
    rw [hg] at hf'
    cases hf'
  | some fn =>
    have hf' : ((Try.prog.funcs[f]?).any fun fn => !fn.body.isNone) = true := hf
    rw [hg] at hf'
    have h := List.all_eq_true.1 funcs_plain2 fn (Array.mem_toList_iff.2 (Array.mem_of_getElem? hg))
    exact ⟨fn, hg, by simpa using h, by simpa using hf'⟩
theorem cfx_base : cfx.H0.length = cfx.L ∧ (∀ (i : Nat) (B : Blk), cfx.H0[i]? = some (some B) → B.under cfx.L = true) ∧ ∀ p ∈ cfx.G, p.2 < cfx.L :=
  ⟨rfl, fun i B h => by simp [cfx] at h, fun p h => by simp [cfx] at h⟩
theorem cfx_G : ∀ p ∈ cfx.G, p.2 < cfx.L := fun p h => by simp [cfx] at h
end Go.Proofs.Yteodlcpcgfjdcaa
end
section
namespace Go.Proofs.Yteodlcpcgfjdcaa.E2
open Go Go.RowKit
section
variable {τ : Nat → Nat} {nl : Nat → Bool} {h : Heap} {m j : Nat} {l : Heap}
theorem ents_nil : Paid (entries τ nl h m j []) := trivial
theorem ents_none (k : Paid (entries τ nl h m (j + 1) l)) : Paid (entries τ nl h m j (none :: l)) := k
theorem ents_say {B : Blk} (h1 : nl j = false) (h2 : h[τ j]? = some (some (B.mv τ nl))) (h3 : B.under m = true) (h4 : B.nilOk nl = true) (k : Paid (entries τ nl h m (j + 1) l)) : Paid (entries τ nl h m j (some B :: l)) := by
  refine ⟨?_, h3, h4, k⟩
  rw [h1]; exact h2
theorem ents_raw {cs : List V} {ty : TypeId} {own : Own} (hr : cs.all isRawV = true) (h1 : nl j = false) (h2 : h[τ j]? = some (some (.cells cs ty own))) (k : Paid (entries τ nl h m (j + 1) l)) : Paid (entries τ nl h m j (some (.cells cs ty own) :: l)) := by
  refine ⟨?_, unders_raws _ _ hr, nilOks_raw _ _ hr, k⟩
  rw [h1]
  show h[τ j]? = some (some (.cells (mvs τ nl cs) ty own))
  rw [mvs_raw τ nl cs hr]
  exact h2
theorem ents_nilB {ty : TypeId} {sz : Nat} (h1 : nl j = true) (k : Paid (entries τ nl h m (j + 1) l)) : Paid (entries τ nl h m j (some (.cells [] ty (.row sz)) :: l)) := by
  refine ⟨?_, rfl, rfl, k⟩
  rw [h1]; exact trivial
theorem ents_nilC {cs : List V} (hc : cs = []) {ty : TypeId} {sz : Nat} (h1 : nl j = true) (k : Paid (entries τ nl h m (j + 1) l)) : Paid (entries τ nl h m j (some (.cells cs ty (.row sz)) :: l)) := by
  subst hc; exact ents_nilB h1 k
end
theorem no_base {c : Cfg} {H h : Heap} (hL : c.L = 0) : ∀ i, i < c.L → H[i]? = h[i]? := fun i hi => by omega
abbrev iV (n : Int) : V := .raw (.int .i64 n)
abbrev uV : V := .raw (.tuple #[])
theorem reshape2 {c : Cfg} {lim : Nat} (n0 : Nat) (hG : ∀ p ∈ c.G, p.2 < c.L) (hL : c.L = 0) (ks : List (Option Nat)) {t T : List V} {h H : Heap} (hq : (Nat.ble n0 h.length && Nat.beq H.length (n0 + ks.length) && Nat.ble lim n0 && Nat.beq T.length t.length && (anyOwn 0 T && T.all (·.slotOk H.length) && nilOks (nlOf n0 ks) T) && keysOk lim n0 h.length H ks) = true)
    (hT : mvs (tauOf n0 ks) (nlOf n0 ks) T = hideBy T t) (hE : Paid (entries (tauOf n0 ks) (nlOf n0 ks) h H.length 0 H))
    {ρ : Ren} {a : Act} {w : World} (RT : RelT ρ h.length t a) (RH : RelH c ρ h w) : ∃ ρ', RelT ρ' H.length T a ∧ RelH c ρ' H w ∧ Fr lim n0 ρ h w ρ' H w := by
  rw [Bool.and_eq_true, Bool.and_eq_true, Bool.and_eq_true, Bool.and_eq_true, Bool.and_eq_true] at hq
  obtain ⟨⟨⟨⟨⟨q1, q2⟩, q3⟩, q4⟩, q5⟩, q6⟩ := hq
  exact reshape hG ks (Nat.le_of_ble_eq_true q1) (Nat.eq_of_beq_eq_true q2) (Nat.le_of_ble_eq_true q3) (by omega) hT (Nat.eq_of_beq_eq_true q4) q5 (no_base hL) q6 hE RT RH
def ints (zs : List Int) : List V := zs.map fun n => .raw (.int .i64 n)
theorem ints_all (zs : List Int) : (ints zs).all isRawV = true := by
  rw [List.all_eq_true]
  intro x hx
  obtain ⟨v, _, rfl⟩ := List.mem_map.1 hx
  rfl
theorem ints_len (zs : List Int) : (ints zs).length = zs.length := by simp [ints]
theorem ints_take (zs : List Int) (n : Nat) : (ints zs).take n = ints (zs.take n) := by simp [ints, List.map_take]
theorem ints_one (zs : List Int) : oneCells (ints zs) = true := by
  induction zs with
  | nil => rfl
  | cons z zs ih => exact ih
theorem ints_app (xs ys : List Int) : ints xs ++ ints ys = ints (xs ++ ys) := by simp [ints]
def at' (zs : List Int) (k : Nat) : Int := zs.getD k 0
theorem raws_raw : ∀ l : List Value, raws (l.map .raw) = some l
  | [] => rfl
  | v :: l => by simp [raws, raws_raw l]
theorem load_one {c : Cfg} {zs : List Int} {T : TypeId} {off : Nat} (hT : pureRun c.P (isAgg T) = some false) (h : off < zs.length) : loadRow c T (ints zs) off = some (.raw (.int .i64 (at' zs off))) := by
  unfold loadRow
  rw [hT]
  dsimp only [ints]
  rw [List.getElem?_map, List.getElem?_eq_getElem h]
  simp [at', List.getD, List.getElem?_eq_getElem h]
theorem load_agg {c : Cfg} {zs : List Int} {T : TypeId} {off : Nat} (n : Nat) (hT : pureRun c.P (isAgg T) = some true) (hn : pureRun c.P (Go.sizeOf T) = some n) (h0 : 0 < n) (h : off + n ≤ zs.length) : loadRow c T (ints zs) off = some (.raw (.agg ((List.range n).map fun j => Value.int .i64 (at' zs (off + j))).toArray)) := by
  unfold loadRow
  rw [hT, hn]
  dsimp only [ints]
  simp only [List.length_map, h, h0, and_self, if_true]
  have e : List.take n (List.drop off (List.map (fun n => V.raw (Value.int .i64 n)) zs)) = ((List.range n).map fun j => Value.int .i64 (at' zs (off + j))).map V.raw := by
    apply List.ext_getElem?
    intro j
    rw [List.getElem?_take, List.getElem?_drop, List.getElem?_map, List.getElem?_map, List.getElem?_map]
    by_cases hj : j < n
    · rw [if_pos hj, List.getElem?_range hj, List.getElem?_eq_getElem (by omega : off + j < zs.length)]
      simp [at', List.getD, List.getElem?_eq_getElem (by omega : off + j < zs.length)]
    · rw [if_neg hj, List.getElem?_eq_none (by simp; omega : (List.range n).length ≤ j)]
      rfl
  rw [e]
  unfold mkAgg
  rw [raws_raw]
abbrev rowV (zs : List Int) (off n : Nat) : V := .raw (.agg ((List.range n).map fun j => Value.int .i64 (at' zs (off + j))).toArray)
def putI (zs : List Int) (k : Nat) (xs : List Int) : List Int := zs.take k ++ xs ++ zs.drop (k + xs.length)
theorem putI_len {zs : List Int} {k : Nat} {xs : List Int} (h : k + xs.length ≤ zs.length) : (putI zs k xs).length = zs.length := by
  simp [putI]; omega
theorem putI_length (zs : List Int) (k : Nat) (xs : List Int) : (putI zs k xs).length = min k zs.length + (xs.length + (zs.length - (k + xs.length))) := by
  simp [putI]
theorem at_putI {zs : List Int} {k : Nat} {xs : List Int} (h : k + xs.length ≤ zs.length) (j : Nat) : at' (putI zs k xs) j = if k ≤ j ∧ j < k + xs.length then at' xs (j - k) else at' zs j := by
  have hk : (zs.take k).length = k := by simp; omega
  unfold at' putI
  rw [List.getD_eq_getElem?_getD, List.getD_eq_getElem?_getD, List.getD_eq_getElem?_getD]
  split
  · rename_i hj
    rw [List.getElem?_append_left (by simp; omega), List.getElem?_append_right (by omega), hk]
  · rename_i hj
    rcases Nat.lt_or_ge j k with h1 | h1
    · rw [List.getElem?_append_left (by simp; omega), List.getElem?_append_left (by omega), List.getElem?_take]
      simp [h1]
    · have h2 : k + xs.length ≤ j := by
        rcases Nat.lt_or_ge j (k + xs.length) with h3 | h3
        · exact absurd ⟨h1, h3⟩ hj
        · exact h3
      rw [List.getElem?_append_right (by simp; omega), List.getElem?_drop]
      congr 2
      simp [hk]; omega
theorem putAt_ints (zs : List Int) (k : Nat) (xs : List Int) (h : k + xs.length ≤ zs.length) : putAt (ints zs) k (ints xs) = ints (putI zs k xs) := by
  unfold putAt putI ints
  simp [List.map_take, List.map_drop]
theorem ext_at {xs ys : List Int} (hl : xs.length = ys.length) (h : ∀ j, j < xs.length → at' xs j = at' ys j) : xs = ys := by
  apply List.ext_getElem hl
  intro j h1 h2
  have := h j h1
  simpa [at', List.getD, h1, h2] using this
theorem store_ints {c : Cfg} {names : Nat} {T : TypeId} {zs : List Int} {off : Nat} {x : V} (xs : List Int) (hx : cellsV x = some (ints xs)) (hn : pureRun c.P (Go.sizeOf T) = some xs.length) (h0 : 0 < xs.length) (h : off + xs.length ≤ zs.length) : storeRow c names T (ints zs) off x = some (ints (putI zs off xs)) := by
  unfold storeRow
  rw [hx, hn]
  have e1 : (ints xs).length = xs.length := ints_len xs
  have e2 : (ints zs).length = zs.length := ints_len zs
  have e3 : unders names (ints xs) = true := unders_raws names _ (ints_all xs)
  simp only [e1, e2, h0, h, ints_one, e3, and_self, if_true]
  rw [putAt_ints zs off xs h]
def zeroI : Value → Bool
  | .int .i64 n => n == 0
  | _ => false
theorem zeroI_ok {v : Value} (h : zeroI v = true) : v = .int .i64 0 := by
  unfold zeroI at h
  split at h
  · simp at h; rw [h]
  · cases h
theorem mk0_ints (z : Array Value) (hz : z.toList.all zeroI = true) (h0 : 0 < z.size) (n : Nat) : mk0 z n = ints (List.replicate n 0) := by
  unfold mk0 ints
  apply List.ext_getElem?
  intro i
  rw [List.getElem?_map, List.getElem?_map]
  by_cases hi : i < n
  · have hm : i % z.size < z.size := Nat.mod_lt _ h0
    have e : z[i % z.size] = .int .i64 0 := zeroI_ok (List.all_eq_true.1 hz _ (Array.mem_toList_iff.2 (Array.getElem_mem hm)))
    rw [List.getElem?_range hi, List.getElem?_replicate, if_pos hi]
    simp only [Option.map_some]
    rw [getElem!_pos z _ hm, e]
  · rw [List.getElem?_eq_none (by simpa using hi), List.getElem?_eq_none (by simpa using hi)]
    rfl
theorem ones_take (zs : List Int) (n : Nat) : oneCells ((ints zs).take n) = true := by rw [ints_take]; exact ints_one _
theorem app_lit (zs : List Int) (xs : List Int) {l : List V} (h : l = ints xs) : ints zs ++ l = ints (zs ++ xs) := by rw [h, ints_app]
theorem app_row (zs xs : List Int) (n : Nat) : ints zs ++ (ints xs).take n = ints (zs ++ xs.take n) := by rw [ints_take, ints_app]
theorem app_row0 (xs : List Int) (n : Nat) : [] ++ (ints xs).take n = ints (xs.take n) := by rw [List.nil_append, ints_take]
theorem row_row0 (xs : List Int) (n : Nat) : (ints xs).take n = ints (xs.take n) := ints_take xs n
theorem below2 {c : Cfg} {lim0 lim : Nat} (hL : c.L = 0) (hG : c.G = []) {f : FuncId} {args : List V} {A B : List V} {T U : TypeId} {N h : Heap} {v : V} (i j : Nat)
    (hm : Meets c lim0 f args [some (.cells A T .ro), some (.cells B U .ro)] v ([some (.cells A T .ro), some (.cells B U .ro)] ++ N))
    (hA : A.all isRawV = true) (hB : B.all isRawV = true) (hua : unders 2 args = true)
    (hnew : ∀ (k : Nat) (X : Blk), N[k]? = some (some X) → X.wr = true ∧ ∃ cs ty own, X = .cells cs ty own ∧ cs.all isRawV = true)
    {o1 o2 : Own} (h1 : h[i]? = some (some (.cells A T o1))) (h2 : h[j]? = some (some (.cells B U o2))) (hlim : lim ≤ h.length) :
    Meets c lim f (mvs (fun k => if k = 0 then i else j) nf args) h (v.mv (fun k => if k < 2 then (if k = 0 then i else j) else h.length + (k - 2)) nf) (h ++ N) := by
  have hmv : ∀ {cs : List V} {τ : Nat → Nat} {ty : TypeId} {own : Own}, cs.all isRawV = true → (Blk.cells cs ty own).mv τ nf = .cells cs ty own := fun {cs τ ty own} h => by
    show Blk.cells (mvs τ nf cs) ty own = _
    rw [mvs_raw τ nf cs h]
  have hl : ∀ (B : Blk) (cs : List V) (ty : TypeId) (o : Own), B = .cells cs ty .ro → B.le (.cells cs ty o) := fun B cs ty o e => .inr ⟨cs, ty, o, e, rfl⟩
  have two : ∀ (k : Nat) (X : Blk), ([some (.cells A T .ro), some (.cells B U .ro)] : Heap)[k]? = some (some X) → (k = 0 ∧ X = .cells A T .ro) ∨ (k = 1 ∧ X = .cells B U .ro) := fun k X hk => by
    match k with
    | 0 => simp only [List.getElem?_cons_zero, Option.some.injEq] at hk; exact .inl ⟨rfl, hk.symm⟩
    | 1 => simp only [List.getElem?_cons_succ, List.getElem?_cons_zero, Option.some.injEq] at hk; exact .inr ⟨rfl, hk.symm⟩
    | k + 2 => simp at hk
  have nowr : ∀ k, ¬ wrAt ([some (.cells A T .ro), some (.cells B U .ro)] : Heap) k := fun k ⟨X, hX, hw⟩ => by
    rcases two k X hX with ⟨_, rfl⟩ | ⟨_, rfl⟩ <;> cases hw
  have hi := lt_len h1
  have hj := lt_len h2
  refine embed (H := [some (.cells A T .ro), some (.cells B U .ro)]) (fun k => if k = 0 then i else j) (fun p hp => by rw [hG] at hp; cases hp) hm (by simp) hua (by omega) (fun k hk => by omega) ?_ ?_ (fun k hk => by omega) ?_ ?_ ?_ ?_ (by simp) (fun k hk => by omega) ?_
  · intro k X hX
    rcases two k X hX with ⟨_, rfl⟩ | ⟨_, rfl⟩
    · exact unders_raws _ _ hA
    · exact unders_raws _ _ hB
  · intro k X hk hX
    rw [List.getElem?_append_right hk] at hX
    exact (hnew _ X hX).1
  · intro k hk
    show (if k = 0 then i else j) < h.length
    split <;> assumption
  · intro k X hX
    rcases two k X hX with ⟨rfl, rfl⟩ | ⟨rfl, rfl⟩
    · exact ⟨_, h1, by rw [hmv hA]; exact hl _ _ _ _ rfl, fun hw => by cases hw⟩
    · exact ⟨_, h2, by rw [hmv hB]; exact hl _ _ _ _ rfl, fun hw => by cases hw⟩
  · intro a b ha
    exact absurd ha (nowr a)
  · intro k _ hk
    exact absurd hk (nowr k)
  · intro k X hX
    rcases Nat.lt_or_ge k h.length with hk | hk
    · rw [List.getElem?_append_left hk] at hX
      exact .inr ⟨hk, hX, fun i' _ hw => absurd hw (nowr i')⟩
    · rw [List.getElem?_append_right hk] at hX
      obtain ⟨_, cs, ty, own, rfl, hc⟩ := hnew _ X hX
      refine .inl ⟨2 + (k - h.length), _, ?_, ?_, fun hlt => absurd (show 2 + (k - h.length) < 2 from hlt) (by omega), (hmv hc).symm⟩
      · rw [List.getElem?_append_right (show 2 ≤ 2 + (k - h.length) by omega)]
        show N[2 + (k - h.length) - 2]? = _
        rw [show 2 + (k - h.length) - 2 = k - h.length by omega]
        exact hX
      · refine Eq.trans ?_ (if_neg (fun hlt => absurd (show 2 + (k - h.length) < 2 from hlt) (by omega))).symm
        show k = h.length + (2 + (k - h.length) - 2)
        omega
theorem below1 {c : Cfg} {lim0 lim : Nat} (hL : c.L = 0) (hG : c.G = []) {f : FuncId} {args : List V} {A : List V} {T : TypeId} {N h : Heap} {v : V} (i : Nat)
    (hm : Meets c lim0 f args [some (.cells A T .ro)] v ([some (.cells A T .ro)] ++ N))
    (hA : A.all isRawV = true) (hua : unders 1 args = true)
    (hnew : ∀ (k : Nat) (X : Blk), N[k]? = some (some X) → X.wr = true ∧ ∃ cs ty own, X = .cells cs ty own ∧ cs.all isRawV = true)
    {o1 : Own} (h1 : h[i]? = some (some (.cells A T o1))) (hlim : lim ≤ h.length) :
    Meets c lim f (mvs (fun _ => i) nf args) h (v.mv (fun k => if k < 1 then i else h.length + (k - 1)) nf) (h ++ N) := by
  have hmv : ∀ {cs : List V} {τ : Nat → Nat} {ty : TypeId} {own : Own}, cs.all isRawV = true → (Blk.cells cs ty own).mv τ nf = .cells cs ty own := fun {cs τ ty own} h => by
    show Blk.cells (mvs τ nf cs) ty own = _
    rw [mvs_raw τ nf cs h]
  have one : ∀ (k : Nat) (X : Blk), ([some (.cells A T .ro)] : Heap)[k]? = some (some X) → k = 0 ∧ X = .cells A T .ro := fun k X hk => by
    match k with
    | 0 => simp only [List.getElem?_cons_zero, Option.some.injEq] at hk; exact ⟨rfl, hk.symm⟩
    | k + 1 => simp at hk
  have nowr : ∀ k, ¬ wrAt ([some (.cells A T .ro)] : Heap) k := fun k ⟨X, hX, hw⟩ => by
    obtain ⟨_, rfl⟩ := one k X hX
    cases hw
  have hi := lt_len h1
  refine embed (H := [some (.cells A T .ro)]) (fun _ => i) (fun p hp => by rw [hG] at hp; cases hp) hm (by simp) hua (by omega) (fun k hk => by omega) ?_ ?_ (fun k hk => by omega) ?_ ?_ ?_ ?_ (by simp) (fun k hk => by omega) ?_
  · intro k X hX
    obtain ⟨_, rfl⟩ := one k X hX
    exact unders_raws _ _ hA
  · intro k X hk hX
    rw [List.getElem?_append_right hk] at hX
    exact (hnew _ X hX).1
  · intro k hk
    exact hi
  · intro k X hX
    obtain ⟨rfl, rfl⟩ := one k X hX
    exact ⟨_, h1, by rw [hmv hA]; exact .inr ⟨_, _, _, rfl, rfl⟩, fun hw => by cases hw⟩
  · intro a b ha
    exact absurd ha (nowr a)
  · intro k _ hk
    exact absurd hk (nowr k)
  · intro k X hX
    rcases Nat.lt_or_ge k h.length with hk | hk
    · rw [List.getElem?_append_left hk] at hX
      exact .inr ⟨hk, hX, fun i' _ hw => absurd hw (nowr i')⟩
    · rw [List.getElem?_append_right hk] at hX
      obtain ⟨_, cs, ty, own, rfl, hc⟩ := hnew _ X hX
      refine .inl ⟨1 + (k - h.length), _, ?_, ?_, fun hlt => absurd (show 1 + (k - h.length) < 1 from hlt) (by omega), (hmv hc).symm⟩
      · rw [List.getElem?_append_right (show 1 ≤ 1 + (k - h.length) by omega)]
        show N[1 + (k - h.length) - 1]? = _
        rw [show 1 + (k - h.length) - 1 = k - h.length by omega]
        exact hX
      · refine Eq.trans ?_ (if_neg (fun hlt => absurd (show 1 + (k - h.length) < 1 from hlt) (by omega))).symm
        show k = h.length + (1 + (k - h.length) - 1)
        omega
end Go.Proofs.Yteodlcpcgfjdcaa.E2
end
section
namespace Go.Proofs.Yteodlcpcgfjdcaa.E2
open Go Go.RowKit
section
variable {c : Cfg} {lim n0 : Nat} {rnd : Option Nat} {x : Code}
theorem rounds_from (hb : ∀ b, rnd = some b → b < n0) (T : Nat → List V) (H : Nat → Heap) (n : Nat) {e : Ex} {Te : List V} {He : Heap} (he : e ≠ .normal)
    (hstep : ∀ i, i < n → Runs c lim n0 rnd x (T i) (H i) .normal (T (i + 1)) (H (i + 1))) (hend : Runs c lim n0 rnd x (T n) (H n) e Te He) : ∀ k i, i + k = n → ∃ m, Rounds c lim n0 rnd x m (T i) (H i) e Te He := by
  intro k
  induction k with
  | zero =>
    intro i hi
    have : i = n := by omega
    subst this
    exact ⟨1, rounds_done hend he⟩
  | succ k ih =>
    intro i hi
    obtain ⟨m, hm⟩ := ih (i + 1) (by omega)
    exact ⟨m + 1, rounds_more hb (hstep i (by omega)) hm⟩
theorem upto (hb : ∀ b, rnd = some b → b < n0) (T : Nat → List V) (H : Nat → Heap) (n : Nat) {e : Ex} {Te : List V} {He : Heap} (he : e ≠ .normal)
    (hstep : ∀ i, i < n → Runs c lim n0 rnd x (T i) (H i) .normal (T (i + 1)) (H (i + 1))) (hend : Runs c lim n0 rnd x (T n) (H n) e Te He) : Runs c lim n0 rnd (.loop x) (T 0) (H 0) e Te He := by
  obtain ⟨m, hm⟩ := rounds_from hb T H n he hstep hend n 0 (by omega)
  exact runs_loop hm
theorem upto_find (hb : ∀ b, rnd = some b → b < n0) (good : Nat → Bool) (T : Nat → List V) (H : Nat → Heap) (n : Nat) {e e1 : Ex} {Te : List V} {He : Heap} (T1 : Nat → List V) (H1 : Nat → Heap) (he : e ≠ .normal) (he1 : e1 ≠ .normal)
    (hstep : ∀ i, i < n → good i = true → Runs c lim n0 rnd x (T i) (H i) .normal (T (i + 1)) (H (i + 1))) (hbad : ∀ i, i < n → good i = false → Runs c lim n0 rnd x (T i) (H i) e1 (T1 i) (H1 i)) (hend : Runs c lim n0 rnd x (T n) (H n) e Te He) :
    ((List.range n).all good = true ∧ Runs c lim n0 rnd (.loop x) (T 0) (H 0) e Te He) ∨ ((List.range n).all good = false ∧ ∃ i, i < n ∧ good i = false ∧ (∀ j, j < i → good j = true) ∧ Runs c lim n0 rnd (.loop x) (T 0) (H 0) e1 (T1 i) (H1 i)) := by
  cases h : (List.range n).all good with
  | true =>
    left
    rw [List.all_eq_true] at h
    exact ⟨rfl, upto hb T H n he (fun i hi => hstep i hi (h i (List.mem_range.2 hi))) hend⟩
  | false =>
    right
    refine ⟨rfl, ?_⟩
    have : ∃ i, i < n ∧ good i = false ∧ ∀ j, j < i → good j = true := by
      clear hstep hbad hend
      induction n with
      | zero => simp at h
      | succ n ih =>
        rw [List.range_succ, List.all_append] at h
        cases h2 : (List.range n).all good with
        | false =>
          obtain ⟨i, a, b, d⟩ := ih h2
          exact ⟨i, by omega, b, d⟩
        | true =>
          rw [h2] at h
          simp at h
          exact ⟨n, by omega, h, fun j hj => List.all_eq_true.1 h2 j (List.mem_range.2 hj)⟩
    obtain ⟨i, hi, hbi, hlt⟩ := this
    refine ⟨i, hi, hbi, hlt, ?_⟩
    exact upto hb T H i he1 (fun j hj => hstep j (by omega) (hlt j hj)) (hbad i hi hbi)
end
def iterO {σ : Type} (f : Nat → σ → Option σ) : Nat → Nat → σ → Option σ
  | _, 0, s => some s
  | a, k + 1, s => (f a s).bind (iterO f (a + 1) k)
section
variable {c : Cfg} {lim n0 : Nat} {rnd : Option Nat} {x : Code}
theorem upto_opt {σ : Type} (hb : ∀ b, rnd = some b → b < n0) (f : Nat → σ → Option σ) (T : Nat → σ → List V) (H : Nat → σ → Heap) (P : Nat → σ → Prop) (n : Nat) {e e1 : Ex} (Te : σ → List V) (He : σ → Heap) (T1 : Nat → σ → List V) (H1 : Nat → σ → Heap) (he : e ≠ .normal) (he1 : e1 ≠ .normal) (a0 : Nat)
    (hstep : ∀ i s s', a0 ≤ i → i < n → P i s → f i s = some s' → P (i + 1) s' ∧ Runs c lim n0 rnd x (T i s) (H i s) .normal (T (i + 1) s') (H (i + 1) s'))
    (hbad : ∀ i s, a0 ≤ i → i < n → P i s → f i s = none → Runs c lim n0 rnd x (T i s) (H i s) e1 (T1 i s) (H1 i s))
    (hend : ∀ s, P n s → Runs c lim n0 rnd x (T n s) (H n s) e (Te s) (He s)) : ∀ k a s, a0 ≤ a → a + k = n → P a s →
      (∃ s', iterO f a k s = some s' ∧ P n s' ∧ Runs c lim n0 rnd (.loop x) (T a s) (H a s) e (Te s') (He s')) ∨ (iterO f a k s = none ∧ ∃ i s', a ≤ i ∧ i < n ∧ P i s' ∧ f i s' = none ∧ Runs c lim n0 rnd (.loop x) (T a s) (H a s) e1 (T1 i s') (H1 i s')) := by
  have key : ∀ k a s, a0 ≤ a → a + k = n → P a s →
      (∃ s', iterO f a k s = some s' ∧ P n s' ∧ ∃ m, Rounds c lim n0 rnd x m (T a s) (H a s) e (Te s') (He s')) ∨ (iterO f a k s = none ∧ ∃ i s', a ≤ i ∧ i < n ∧ P i s' ∧ f i s' = none ∧ ∃ m, Rounds c lim n0 rnd x m (T a s) (H a s) e1 (T1 i s') (H1 i s')) := by
    intro k
    induction k with
    | zero =>
      intro a s h0 ha hp
      obtain rfl : a = n := by omega
      exact .inl ⟨s, rfl, hp, 1, rounds_done (hend s hp) he⟩
    | succ k ih =>
      intro a s h0 ha hp
      simp only [iterO]
      cases hf : f a s with
      | none => exact .inr ⟨rfl, a, s, Nat.le_refl _, by omega, hp, hf, 1, rounds_done (hbad a s h0 (by omega) hp hf) he1⟩
      | some s' =>
        obtain ⟨p1, r1⟩ := hstep a s s' h0 (by omega) hp hf
        rcases ih (a + 1) s' (by omega) (by omega) p1 with ⟨s2, q1, q2, m, q3⟩ | ⟨q1, i, s2, q2, q3, q4, q6, m, q5⟩
        · exact .inl ⟨s2, q1, q2, m + 1, rounds_more hb r1 q3⟩
        · exact .inr ⟨q1, i, s2, by omega, q3, q4, q6, m + 1, rounds_more hb r1 q5⟩
  intro k a s h0 ha hp
  rcases key k a s h0 ha hp with ⟨s2, q1, q2, m, q3⟩ | ⟨q1, i, s2, q2, q3, q4, q6, m, q5⟩
  · exact .inl ⟨s2, q1, q2, runs_loop q3⟩
  · exact .inr ⟨q1, i, s2, q2, q3, q4, q6, runs_loop q5⟩
end
theorem new_row (zs : List Int) (T : TypeId) (own : Own) (hw : (Blk.cells (ints zs) T own).wr = true := by rfl) : ∀ (k : Nat) (X : Blk), ([some (Blk.cells (ints zs) T own)] : Heap)[k]? = some (some X) → X.wr = true ∧ ∃ cs ty own, X = .cells cs ty own ∧ cs.all isRawV = true := fun k X h => by
  match k with
  | 0 =>
    simp only [List.getElem?_cons_zero, Option.some.injEq] at h
    subst h
    exact ⟨hw, _, _, _, rfl, ints_all zs⟩
  | k + 1 => simp at h
def tab (n : Nat) (f : Nat → Int) : List Int := (List.range n).map f
theorem tab_len (n : Nat) (f : Nat → Int) : (tab n f).length = n := by simp [tab]
theorem at_tab {n : Nat} {f : Nat → Int} {k : Nat} (h : k < n) : at' (tab n f) k = f k := by
  simp [at', tab, List.getD, h]
theorem eq_tab {zs : List Int} {n : Nat} {f : Nat → Int} (hl : zs.length = n) (h : ∀ k, k < n → at' zs k = f k) : zs = tab n f :=
  ext_at (by rw [hl, tab_len]) fun j hj => by rw [at_tab (by omega)]; exact h j (by omega)
theorem tab_congr {n : Nat} {f g : Nat → Int} (h : ∀ k, k < n → f k = g k) : tab n f = tab n g := eq_tab (tab_len _ _) fun k hk => by rw [at_tab hk]; exact h k hk
theorem rep_tab (n : Nat) : List.replicate n (0 : Int) = tab n fun _ => 0 := eq_tab (by simp) fun k hk => by simp [at', List.getD, hk]
theorem putI_tab {n : Nat} {f : Nat → Int} {k : Nat} {xs : List Int} (h : k + xs.length ≤ n) : putI (tab n f) k xs = tab n fun j => if k ≤ j ∧ j < k + xs.length then at' xs (j - k) else f j :=
  eq_tab (by rw [putI_len (by rw [tab_len]; exact h), tab_len]) fun j hj => by
    rw [at_putI (by rw [tab_len]; exact h)]
    split
    · rfl
    · exact at_tab hj
theorem all_range {n : Nat} {g : Nat → Bool} (h : (List.range n).all g = true) : ∀ i, i < n → g i = true := fun i hi => List.all_eq_true.1 h i (List.mem_range.2 hi)
end Go.Proofs.Yteodlcpcgfjdcaa.E2
end
section
namespace Go.Proofs.Yteodlcpcgfjdcaa.E.R
open Go Go.RowKit
inductive Item where
  | val (v : Value)
  | new (T : TypeId) (z : Array Value)
  | put (k : Nat) (cs : Array Value)
  | old (b : Nat) (T : TypeId) (cs : Array Value)
  | skip
def Item.value (β : Nat → Nat) (i : Nat) : Item → Value
  | .val v => v
  | .new _ _ => .pointer (some ⟨β i, 0, none⟩)
  | _ => undef
structure Rewrites (w w' : World) (b : Nat) (T : TypeId) (cs : Array Value) : Prop where
  os : w'.os = w.os
  tape : w'.tape = w.tape
  output : w'.output = w.output
  size : w'.heap.size = w.heap.size
  block : ∀ k, k ≠ b → w'.heap[k]? = w.heap[k]?
  this : w'.heap[b]? = some (.cells cs T (0, 0))
def known (ops : Array Oper) (its : List Item) (a0 : Act) (o : Oper) (s : Nat) : Option Value :=
  match (List.range ops.size).find? (fun j => (ops[j]?.bind (·.dst)) == some s) with
  | none => a0.tmps[s]?
  | some j => if o.after.toList.any (fun e => Region.binds .any e && e.on == j) then (match its[j]? with | some (.val v) => some v | _ => none) else none
def Env (ops : Array Oper) (its : List Item) (a0 : Act) (o : Oper) (a : Act) : Prop := ∀ s v, known ops its a0 o s = some v → a.tmps[s]? = some v
def waitsFor (ops : Array Oper) (j i : Nat) : Bool := match ops[j]? with | some o => o.after.toList.any (fun e => Region.binds .any e && e.on == i) | none => false
def isOld (ops : Array Oper) (its : List Item) (i b : Nat) : Bool := (List.range its.length).any fun j => match its[j]? with | some (.old b' _ _) => b' == b && !waitsFor ops j i | _ => false
structure Kept (blk : Nat → Bool) (w0 w : World) : Prop where
  os : w.os = w0.os
  tape : w.tape = w0.tape
  output : w.output = w0.output
  size : w0.heap.size ≤ w.heap.size
  block : ∀ b, b < w0.heap.size → blk b = false → w.heap[b]? = w0.heap[b]?
def StepOk (P : Program) (Q : Exit → Act → World → Prop) (ops : Array Oper) (its : List Item) (a0 : Act) (w0 : World) (i : Nat) (o : Oper) : Item → Prop
  | .val v => ∀ (a : Act) (w : World) (K : Act → World → Prop), Env ops its a0 o a → Kept (isOld ops its i) w0 w → (∀ w', Below w.heap.size w w' → K (a.put o.dst v) w') → o.wp P a w K Q
  | .new T z => ∀ (a : Act) (w : World) (K : Act → World → Prop), Env ops its a0 o a → Kept (isOld ops its i) w0 w → K (a.put o.dst (.pointer (some ⟨w.heap.size, 0, none⟩))) (w.alloc (.cells z T)) → o.wp P a w K Q
  | .put k cs => ∀ (T : TypeId) (z : Array Value), its[k]? = some (.new T z) → ∀ (a : Act) (w : World) (K : Act → World → Prop) (b : Nat) (cs0 : Array Value) (d : Nat), Env ops its a0 o a → Kept (isOld ops its i) w0 w →
      (ops[k]?.bind (·.dst)) = some d → a.tmps[d]? = some (.pointer (some ⟨b, 0, none⟩)) → w.heap[b]? = some (.cells cs0 T (0, 0)) → cs0.size = z.size →
      (∀ w', Rewrites w w' b T cs → K (a.put o.dst undef) w') → o.wp P a w K Q
  | .skip => True
  | .old b T cs => ∀ (a : Act) (w : World) (K : Act → World → Prop) (cs0 : Array Value), Env ops its a0 o a → Kept (isOld ops its i) w0 w → w.heap[b]? = w0.heap[b]? →
      w.heap[b]? = some (.cells cs0 T (0, 0)) → cs0.size = cs.size →
      (∀ w', Rewrites w w' b T cs → K (a.put o.dst undef) w') → o.wp P a w K Q
def isSkip : Item → Bool
  | .skip => true
  | _ => false
def guardOk (ops : Array Oper) (its : List Item) (o : Oper) (it : Item) : Bool :=
  match o.guard with
  | none => !isSkip it
  | some (j, want) => o.after.toList.any (fun e => Region.binds .any e && e.on == j) &&
    (match ops[j]?, its[j]? with
      | some p, some (.val (.bool b)) => p.dst.isSome && ((b == want) != isSkip it)
      | _, _ => false)
def shape (ops : Array Oper) (its : List Item) (n : Nat) : Bool :=
  (its.length == ops.size) &&
  ((List.range ops.size).all fun i => match ops[i]?, its[i]? with
    | some o, some it => (o.after.all fun e => !Region.binds .any e || decide (e.on < i)) &&
      (match it with
        | .val _ => true
        | .skip => true
        | .new _ _ => o.dst.isSome
        | .put k _ => o.dst.isNone && o.after.any (fun e => Region.binds .any e && e.on == k) && (match its[k]? with | some (.new _ _) => true | _ => false)
        | .old _ _ _ => o.dst.isNone) &&
      (match o.dst with | some d => decide (d < n) | none => true) &&
      ((List.range ops.size).all fun j => i == j || match ops[j]?, its[j]? with
        | some p, some jt => (o.dst.isNone || o.dst != p.dst) &&
          (match it, jt with
            | .put k _, .put k' _ => k != k'
            | _, _ => true)
        | _, _ => false)
    | _, _ => false)
structure Inv (ops : Array Oper) (its : List Item) (a0 : Act) (w0 : World) (β : Nat → Nat) (listed : Array Bool) (a : Act) (w : World) : Prop where
  len : listed.size = ops.size
  defers : a.defers = a0.defers
  tsize : a.tmps.size = a0.tmps.size
  done : ∀ (i : Nat) (o : Oper) (it : Item) (d : Nat), ops[i]? = some o → its[i]? = some it → listed[i]? = some true → o.dst = some d → a.tmps[d]? = some (it.value β i)
  rest : ∀ k, (∀ (i : Nat) (o : Oper), ops[i]? = some o → listed[i]? = some true → o.dst ≠ some k) → a.tmps[k]? = a0.tmps[k]?
  kept : Kept (isOld ops its ops.size) w0 w
  closed : ∀ (i : Nat) (o : Oper), ops[i]? = some o → listed[i]? = some true → ∀ e ∈ o.after, Region.binds .any e = true → listed[e.on]? = some true
  news : ∀ (i : Nat) (T : TypeId) (z : Array Value), its[i]? = some (.new T z) → listed[i]? = some true → w0.heap.size ≤ β i ∧ β i < w.heap.size ∧ ∃ cs, w.heap[β i]? = some (.cells cs T (0, 0)) ∧ cs.size = z.size
  apart : ∀ (i j : Nat) (T T' : TypeId) (z z' : Array Value), its[i]? = some (.new T z) → its[j]? = some (.new T' z') → listed[i]? = some true → listed[j]? = some true → i ≠ j → β i ≠ β j
  puts : ∀ (i k : Nat) (cs : Array Value) (T : TypeId) (z : Array Value), its[i]? = some (.put k cs) → its[k]? = some (.new T z) → listed[i]? = some true → listed[k]? = some true → w.heap[β k]? = some (.cells cs T (0, 0))
  olds : ∀ (i b : Nat) (T : TypeId) (cs : Array Value), its[i]? = some (.old b T cs) → listed[i]? = some true → w.heap[b]? = some (.cells cs T (0, 0))
  behind : ∀ (i k : Nat) (cs : Array Value), its[i]? = some (.put k cs) → listed[i]? = some true → listed[k]? = some true
  waits : ∀ (i b : Nat) (T : TypeId) (cs : Array Value), its[i]? = some (.old b T cs) → listed[i]? = some false → w.heap[b]? = w0.heap[b]?
theorem lookL {listed : Array Bool} {i j : Nat} (h : (listed.setIfInBounds i true)[j]? = some true) (hne : j ≠ i) : listed[j]? = some true := by
  rwa [Array.getElem?_setIfInBounds_ne (Ne.symm hne)] at h
theorem listed_set {listed : Array Bool} {i j : Nat} (h : listed[j]? = some true) : (listed.setIfInBounds i true)[j]? = some true := by
  rcases Nat.decEq j i with hne | rfl
  · rwa [Array.getElem?_setIfInBounds_ne (Ne.symm hne)]
  · have : j < listed.size := by
      rcases Nat.lt_or_ge j listed.size with hlt | hge
      · exact hlt
      · rw [Array.getElem?_eq_none hge] at h; cases h
    simp [this]
theorem put_other {a : Act} {d k : Nat} {v : Value} (h : d ≠ k) : (a.put (some d) v).tmps[k]? = a.tmps[k]? := by
  simp [Act.put, Array.getElem?_setIfInBounds_ne h]
theorem put_this {a : Act} {d : Nat} {v : Value} (h : d < a.tmps.size) : (a.put (some d) v).tmps[d]? = some v := by
  simp [Act.put, h]
theorem put_size {a : Act} {d : Option Tmp} {v : Value} : (a.put d v).tmps.size = a.tmps.size := by
  cases d <;> simp [Act.put]
theorem put_defers {a : Act} {d : Option Tmp} {v : Value} : (a.put d v).defers = a.defers := by
  cases d <;> simp [Act.put]
def olds : List Item → List Nat
  | [] => []
  | .old b _ _ :: r => b :: olds r
  | _ :: r => olds r
theorem olds_mem {b : Nat} : ∀ (its : List Item) (j : Nat) (T : TypeId) (cs : Array Value), its[j]? = some (.old b T cs) → b ∈ olds its := by
  intro its
  induction its with
  | nil => intro j T cs h; simp at h
  | cons x l ih =>
    intro j T cs h
    cases j with
    | zero =>
      simp only [List.getElem?_cons_zero, Option.some.injEq] at h
      subst h
      simp [olds]
    | succ j =>
      simp only [List.getElem?_cons_succ] at h
      have := ih j T cs h
      cases x <;> simp [olds, this]
theorem olds_once {b : Nat} : ∀ (its : List Item), (olds its).Nodup → ∀ (i j : Nat) (T T' : TypeId) (cs cs' : Array Value), its[i]? = some (.old b T cs) → its[j]? = some (.old b T' cs') → i = j := by
  intro its
  induction its with
  | nil => intro _ i j T T' cs cs' h; simp at h
  | cons x l ih =>
    intro hn i j T T' cs cs' hi hj
    have hl : (olds l).Nodup := by
      cases x <;> simp only [olds, List.nodup_cons] at hn <;> first | exact hn | exact hn.2
    cases i with
    | zero =>
      cases j with
      | zero => rfl
      | succ j =>
        simp only [List.getElem?_cons_zero, Option.some.injEq] at hi
        subst hi
        simp only [olds, List.nodup_cons] at hn
        exact absurd (olds_mem l j T' cs' (by simpa using hj)) hn.1
    | succ i =>
      cases j with
      | zero =>
        simp only [List.getElem?_cons_zero, Option.some.injEq] at hj
        subst hj
        simp only [olds, List.nodup_cons] at hn
        exact absurd (olds_mem l i T cs (by simpa using hi)) hn.1
      | succ j => rw [ih hl i j T T' cs cs' (by simpa using hi) (by simpa using hj)]
structure Shape (ops : Array Oper) (its : List Item) (n : Nat) : Prop where
  len : its.length = ops.size
  guard : ∀ (i : Nat) (o : Oper) (it : Item), ops[i]? = some o → its[i]? = some it → guardOk ops its o it = true
  back : ∀ (i : Nat) (o : Oper), ops[i]? = some o → ∀ e ∈ o.after, Region.binds .any e = true → e.on < i
  lt : ∀ (i : Nat) (o : Oper) (d : Nat), ops[i]? = some o → o.dst = some d → d < n
  once : ∀ (i j : Nat) (o p : Oper) (d : Nat), ops[i]? = some o → ops[j]? = some p → o.dst = some d → p.dst = some d → i = j
  newDst : ∀ (i : Nat) (o : Oper) (T : TypeId) (z : Array Value), ops[i]? = some o → its[i]? = some (.new T z) → ∃ d, o.dst = some d
  putDst : ∀ (i : Nat) (o : Oper) (k : Nat) (cs : Array Value), ops[i]? = some o → its[i]? = some (.put k cs) → o.dst = none ∧ (∃ e ∈ o.after, Region.binds .any e = true ∧ e.on = k) ∧ ∃ T z, its[k]? = some (.new T z)
  oldDst : ∀ (i : Nat) (o : Oper) (b : Nat) (T : TypeId) (cs : Array Value), ops[i]? = some o → its[i]? = some (.old b T cs) → o.dst = none
  putOnce : ∀ (i j k : Nat) (cs cs' : Array Value), its[i]? = some (.put k cs) → its[j]? = some (.put k cs') → i = j
  oldOnce : ∀ (i j b : Nat) (T T' : TypeId) (cs cs' : Array Value), its[i]? = some (.old b T cs) → its[j]? = some (.old b T' cs') → i = j
theorem Shape.of {ops : Array Oper} {its : List Item} {n : Nat} (h : shape ops its n = true) (hg : ∀ (i : Nat) (o : Oper) (it : Item), ops[i]? = some o → its[i]? = some it → guardOk ops its o it = true) (hnd : (olds its).Nodup) : Shape ops its n := by
  unfold shape at h
  rw [Bool.and_eq_true, beq_iff_eq, List.all_eq_true] at h
  obtain ⟨hl, ha⟩ := h
  have key : ∀ (i : Nat) (o : Oper) (it : Item), ops[i]? = some o → its[i]? = some it → _ := fun i o it ho hi => by
    have hlt : i < ops.size := by
      rcases Nat.lt_or_ge i ops.size with h | h
      · exact h
      · rw [Array.getElem?_eq_none h] at ho; cases ho
    have := ha i (List.mem_range.2 hlt)
    simp only [ho, hi] at this
    exact this
  have itm : ∀ (i : Nat) (o : Oper), ops[i]? = some o → ∃ it, its[i]? = some it := fun i o ho => by
    have hlt : i < ops.size := by
      rcases Nat.lt_or_ge i ops.size with h | h
      · exact h
      · rw [Array.getElem?_eq_none h] at ho; cases ho
    exact ⟨its[i]'(by omega), List.getElem?_eq_getElem (by omega)⟩
  have opm : ∀ (i : Nat) (it : Item), its[i]? = some it → ∃ o, ops[i]? = some o := fun i it hi => by
    have hlt : i < its.length := by
      rcases Nat.lt_or_ge i its.length with h | h
      · exact h
      · rw [List.getElem?_eq_none h] at hi; cases hi
    exact ⟨ops[i]'(by omega), Array.getElem?_eq_getElem (by omega)⟩
  have pair : ∀ (i j : Nat) (o p : Oper) (it jt : Item), ops[i]? = some o → its[i]? = some it → ops[j]? = some p → its[j]? = some jt → i ≠ j →
      ((o.dst.isNone || o.dst != p.dst) && (match it, jt with
            | .put k _, .put k' _ => k != k'
            | _, _ => true)) = true := fun i j o p it jt ho hi hp hj hne => by
    have h1 := key i o it ho hi
    rw [Bool.and_eq_true, List.all_eq_true] at h1
    have hlt : j < ops.size := by
      rcases Nat.lt_or_ge j ops.size with h | h
      · exact h
      · rw [Array.getElem?_eq_none h] at hp; cases hp
    have h2 := h1.2 j (List.mem_range.2 hlt)
    rw [Bool.or_eq_true, beq_iff_eq] at h2
    rcases h2 with h2 | h2
    · exact absurd h2 hne
    · simp only [hp, hj] at h2
      exact h2
  refine ⟨hl, hg, fun i o ho e he hbind => ?_, fun i o d ho hd => ?_, fun i j o p d ho hp hd hd' => ?_, fun i o T z ho hi => ?_, fun i o k cs ho hi => ?_, fun i o b T cs ho hi => ?_, fun i j k cs cs' hi hj => ?_, fun i j b T T' cs cs' hi hj => ?_⟩
  · obtain ⟨it, hi⟩ := itm i o ho
    have := key i o it ho hi
    simp only [Bool.and_eq_true] at this
    have h2 := this.1.1.1
    rw [Array.all_eq_true'] at h2
    have h3 := h2 e he
    rw [hbind] at h3
    simpa using h3
  · obtain ⟨it, hi⟩ := itm i o ho
    have := key i o it ho hi
    simp only [Bool.and_eq_true, hd, decide_eq_true_eq] at this
    exact this.1.2
  · obtain ⟨it, hi⟩ := itm i o ho
    obtain ⟨jt, hj⟩ := itm j p hp
    rcases Nat.decEq i j with hne | he
    · have := pair i j o p it jt ho hi hp hj hne
      simp [hd, hd'] at this
    · exact he
  · have := key i o _ ho hi
    simp only [Bool.and_eq_true] at this
    exact Option.isSome_iff_exists.1 this.1.1.2
  · have := key i o _ ho hi
    simp only [Bool.and_eq_true, Option.isNone_iff_eq_none] at this
    obtain ⟨⟨⟨_, ⟨h1, h2⟩, h3⟩, _⟩, _⟩ := this
    refine ⟨h1, ?_, ?_⟩
    · rw [Array.any_eq_true'] at h2
      obtain ⟨e, he, h2⟩ := h2
      rw [Bool.and_eq_true, beq_iff_eq] at h2
      exact ⟨e, he, h2.1, h2.2⟩
    · cases hk : its[k]? with
      | none => simp [hk] at h3
      | some it => cases it <;> simp [hk] at h3; exact ⟨_, _, rfl⟩
  · have := key i o _ ho hi
    simp only [Bool.and_eq_true, Option.isNone_iff_eq_none] at this
    exact this.1.1.2
  · obtain ⟨o, ho⟩ := opm i _ hi
    obtain ⟨p, hp⟩ := opm j _ hj
    rcases Nat.decEq i j with hne | he
    · have := pair i j o p _ _ ho hi hp hj hne
      simp at this
    · exact he
  · exact olds_once its hnd i j T T' cs cs' hi hj
theorem itm_lt {ops : Array Oper} {i : Nat} {o : Oper} (h : ops[i]? = some o) : i < ops.size := by
  rcases Nat.lt_or_ge i ops.size with hlt | hge
  · exact hlt
  · rw [Array.getElem?_eq_none hge] at h; cases h
theorem ready_spec {ops : Array Oper} {listed : Array Bool} {i : Nat} (hlen : listed.size = ops.size) (h : i ∈ Region.ready .any ops listed) :
    ∃ o, ops[i]? = some o ∧ listed[i]? = some false ∧ ∀ e ∈ o.after, Region.binds .any e = true → listed[e.on]? = some true := by
  unfold Region.ready at h
  rw [List.mem_filter, List.mem_range, Bool.and_eq_true] at h
  obtain ⟨hlt, hl, ha⟩ := h
  have ho : ops[i]? = some (ops[i]'hlt) := Array.getElem?_eq_getElem hlt
  refine ⟨_, ho, ?_, fun e he hb => ?_⟩
  · have hl2 : i < listed.size := by omega
    rw [Array.getElem?_eq_getElem hl2]
    simp [Array.getD, hl2] at hl
    rw [hl]
  · rw [ho] at ha
    simp only [Option.map_some, Option.getD_some, Array.all_eq_true'] at ha
    have := ha e he
    rw [hb] at this
    simp [Array.getD] at this
    obtain ⟨h1, h2⟩ := this
    rw [Array.getElem?_eq_getElem h1, h2]
theorem Inv.env {ops : Array Oper} {its : List Item} {a0 : Act} {w0 : World} {β : Nat → Nat} {listed : Array Bool} {a : Act} {w : World} {n : Nat} (sh : Shape ops its n) (I : Inv ops its a0 w0 β listed a w)
    {o : Oper} (hr : ∀ e ∈ o.after, Region.binds .any e = true → listed[e.on]? = some true) : Env ops its a0 o a := by
  intro s v hk
  unfold known at hk
  split at hk
  · rename_i hf
    rw [I.rest s (fun i p hp hl hd => ?_)]
    · exact hk
    · rw [List.find?_eq_none] at hf
      have := hf i (List.mem_range.2 (itm_lt hp))
      simp [hp, hd] at this
  · rename_i j hf
    have h1 := List.find?_some hf
    rw [beq_iff_eq, Option.bind_eq_some_iff] at h1
    obtain ⟨p, hp, hd⟩ := h1
    split at hk
    · rename_i hany
      rw [List.any_eq_true] at hany
      obtain ⟨e, he, hb⟩ := hany
      rw [Array.mem_toList_iff] at he
      rw [Bool.and_eq_true, beq_iff_eq] at hb
      have hl := hr e he hb.1
      rw [hb.2] at hl
      split at hk
      · rename_i v' hv
        rw [I.done j p _ s hp hv hl hd]
        exact hk
      · cases hk
    · cases hk
theorem below_kept {blk : Nat → Bool} {w0 w w' : World} (k : Kept blk w0 w) (h : Below w.heap.size w w') : Kept blk w0 w' :=
  ⟨h.os.trans k.os, h.tape.trans k.tape, h.output.trans k.output, Nat.le_trans k.size h.size, fun b hb ho => (h.block b (Nat.lt_of_lt_of_le hb k.size)).trans (k.block b hb ho)⟩
section
variable {P : Program} {Q : Exit → Act → World → Prop} {ops : Array Oper} {its : List Item} {a0 : Act} {w0 : World} {β : Nat → Nat} {listed : Array Bool} {a : Act} {w : World}
theorem heap_lt {w : World} {b : Nat} {x : Obj} (h : w.heap[b]? = some x) : b < w.heap.size := by
  rcases Nat.lt_or_ge b w.heap.size with hlt | hge
  · exact hlt
  · rw [Array.getElem?_eq_none hge] at h; cases h
theorem Inv.frameDone (sh : Shape ops its a0.tmps.size) (I : Inv ops its a0 w0 β listed a w) {i : Nat} {o : Oper} {it : Item} (ho : ops[i]? = some o) (hi : its[i]? = some it) (hlf : listed[i]? = some false) {β' : Nat → Nat}
    (hβ : ∀ k, k ≠ i → β' k = β k) {v : Value} (hv : ∀ d, o.dst = some d → v = it.value β' i) :
    ∀ (j : Nat) (p : Oper) (jt : Item) (d : Nat), ops[j]? = some p → its[j]? = some jt → (listed.setIfInBounds i true)[j]? = some true → p.dst = some d → (a.put o.dst v).tmps[d]? = some (jt.value β' j) := by
  intro j p jt d hp hj hl hd
  rcases Nat.decEq j i with hne | rfl
  · have hl' := lookL hl hne
    have h1 := I.done j p jt d hp hj hl' hd
    have e1 : jt.value β' j = jt.value β j := by cases jt <;> simp [Item.value, hβ j hne]
    rw [e1, ← h1]
    cases hod : o.dst with
    | none => rfl
    | some d' =>
      refine put_other (fun e => hne ?_)
      subst e
      exact sh.once j i p o d' hp ho hd hod
  · rw [ho] at hp
    cases hp
    rw [hi] at hj
    cases hj
    rw [hd, put_this (by rw [I.tsize]; exact sh.lt j o d ho hd)]
    exact congrArg some (hv d hd)
theorem Inv.frameRest (I : Inv ops its a0 w0 β listed a w) {i : Nat} {o : Oper} (ho : ops[i]? = some o) (hlt : i < listed.size) {v : Value} :
    ∀ k, (∀ (j : Nat) (p : Oper), ops[j]? = some p → (listed.setIfInBounds i true)[j]? = some true → p.dst ≠ some k) → (a.put o.dst v).tmps[k]? = a0.tmps[k]? := by
  intro k hk
  have h1 : o.dst ≠ some k := hk i o ho (by simp [hlt])
  have h2 : a.tmps[k]? = a0.tmps[k]? := I.rest k (fun j p hp hl => hk j p hp (by
    rcases Nat.decEq j i with hne | rfl
    · rwa [Array.getElem?_setIfInBounds_ne (Ne.symm hne)]
    · simp [hlt]))
  cases hod : o.dst with
  | none => simpa [Act.put] using h2
  | some d => rw [put_other (fun e => h1 (by rw [hod, e])), h2]
theorem lookF {listed : Array Bool} {i j : Nat} (h : (listed.setIfInBounds i true)[j]? = some false) : j ≠ i ∧ listed[j]? = some false := by
  rcases Nat.decEq j i with hne | rfl
  · exact ⟨hne, by rwa [Array.getElem?_setIfInBounds_ne (Ne.symm hne)] at h⟩
  · rw [Array.getElem?_setIfInBounds_self] at h
    split at h <;> cases h
theorem mem_lt {i : Nat} {it : Item} (h : its[i]? = some it) : i < its.length := by
  rcases Nat.lt_or_ge i its.length with hlt | hge
  · exact hlt
  · rw [List.getElem?_eq_none hge] at h; cases h
theorem isOld_mem {b : Nat} {i k : Nat} {T : TypeId} {cs : Array Value} (h : its[i]? = some (.old b T cs)) (hw : waitsFor ops i k = false) : isOld ops its k b = true := by
  unfold isOld
  rw [List.any_eq_true]
  exact ⟨i, List.mem_range.2 (mem_lt h), by simp [h, hw]⟩
theorem waits_end (sh : Shape ops its a0.tmps.size) (j : Nat) : waitsFor ops j ops.size = false := by
  unfold waitsFor
  split
  · rename_i o ho
    rw [List.any_eq_false]
    intro e he
    rw [Array.mem_toList_iff] at he
    have h1 := sh.back j o ho e he
    have h2 := itm_lt ho
    cases hb : Region.binds .any e with
    | false => simp
    | true =>
      have h3 := h1 hb
      have : e.on ≠ ops.size := by omega
      simp [this]
  · rfl
theorem Inv.keptAt (sh : Shape ops its a0.tmps.size) (I : Inv ops its a0 w0 β listed a w) {i : Nat} (hlf : listed[i]? = some false) : Kept (isOld ops its i) w0 w := by
  refine ⟨I.kept.os, I.kept.tape, I.kept.output, I.kept.size, fun b hb ho => ?_⟩
  by_cases hold : isOld ops its ops.size b = false
  · exact I.kept.block b hb hold
  · rw [Bool.not_eq_false] at hold
    unfold isOld at hold
    rw [List.any_eq_true] at hold
    obtain ⟨j, hj, hm⟩ := hold
    rw [List.mem_range] at hj
    split at hm
    · rename_i b' T cs hjt
      rw [Bool.and_eq_true, beq_iff_eq] at hm
      obtain ⟨rfl, _⟩ := hm
      have hw : waitsFor ops j i = true := by
        rcases hwt : waitsFor ops j i with _ | _
        · rw [isOld_mem hjt hwt] at ho; cases ho
        · rfl
      unfold waitsFor at hw
      split at hw
      · rename_i o hoj
        rw [List.any_eq_true] at hw
        obtain ⟨e, he, hb2⟩ := hw
        rw [Array.mem_toList_iff] at he
        rw [Bool.and_eq_true, beq_iff_eq] at hb2
        have hlj : listed[j]? = some (listed[j]'(by rw [I.len, ← sh.len]; exact hj)) := Array.getElem?_eq_getElem _
        cases hv : listed[j]'(by rw [I.len, ← sh.len]; exact hj) with
        | true =>
          rw [hv] at hlj
          have := I.closed j o hoj hlj e he hb2.1
          rw [hb2.2, hlf] at this
          cases this
        | false =>
          rw [hv] at hlj
          exact I.waits j b' T cs hjt hlj
      · cases hw
    · cases hm
theorem Inv.closedSet (I : Inv ops its a0 w0 β listed a w) {i : Nat} {o : Oper} (ho : ops[i]? = some o) (haft : ∀ e ∈ o.after, Region.binds .any e = true → listed[e.on]? = some true) :
    ∀ (j : Nat) (p : Oper), ops[j]? = some p → (listed.setIfInBounds i true)[j]? = some true → ∀ e ∈ p.after, Region.binds .any e = true → (listed.setIfInBounds i true)[e.on]? = some true := by
  intro j p hp hl e he hb
  rcases Nat.decEq j i with hne | rfl
  · exact listed_set (I.closed j p hp (lookL hl hne) e he hb)
  · rw [ho] at hp
    cases hp
    exact listed_set (haft e he hb)
theorem Inv.val (sh : Shape ops its a0.tmps.size) (I : Inv ops its a0 w0 β listed a w) {i : Nat} {o : Oper} {v : Value} (ho : ops[i]? = some o) (hi : its[i]? = some (.val v)) (hlf : listed[i]? = some false) {w' : World} (hb : Below w.heap.size w w') (haft : ∀ e ∈ o.after, Region.binds .any e = true → listed[e.on]? = some true)
    (hold : ∀ (j b : Nat) (T : TypeId) (cs : Array Value), its[j]? = some (.old b T cs) → b < w0.heap.size) :
    Inv ops its a0 w0 β (listed.setIfInBounds i true) (a.put o.dst v) w' := by
  have hlt : i < listed.size := by rw [I.len]; exact itm_lt ho
  refine ⟨by simpa using I.len, by rw [put_defers]; exact I.defers, by rw [put_size]; exact I.tsize, I.frameDone sh ho hi hlf (fun _ _ => rfl) (fun _ _ => rfl), I.frameRest ho hlt, below_kept I.kept hb, I.closedSet ho haft, ?_, ?_, ?_, ?_, ?_, ?_⟩
  · intro j T z hj hl
    have hne : j ≠ i := by rintro rfl; rw [hi] at hj; cases hj
    obtain ⟨h1, h2, cs, h3, h4⟩ := I.news j T z hj (lookL hl hne)
    exact ⟨h1, Nat.lt_of_lt_of_le h2 hb.size, cs, (hb.block _ h2).trans h3, h4⟩
  · intro j k T T' z z' hj hk hl hl' hne
    have h1 : j ≠ i := by rintro rfl; rw [hi] at hj; cases hj
    have h2 : k ≠ i := by rintro rfl; rw [hi] at hk; cases hk
    exact I.apart j k T T' z z' hj hk (lookL hl h1) (lookL hl' h2) hne
  · intro j k cs T z hj hk hl hl'
    have h1 : j ≠ i := by rintro rfl; rw [hi] at hj; cases hj
    have h2 : k ≠ i := by rintro rfl; rw [hi] at hk; cases hk
    have h3 := I.puts j k cs T z hj hk (lookL hl h1) (lookL hl' h2)
    exact (hb.block _ (heap_lt h3)).trans h3
  · intro j b T cs hj hl
    have h1 : j ≠ i := by rintro rfl; rw [hi] at hj; cases hj
    have h3 := I.olds j b T cs hj (lookL hl h1)
    exact (hb.block _ (heap_lt h3)).trans h3
  · intro j k cs hj hl
    have h1 : j ≠ i := by rintro rfl; rw [hi] at hj; cases hj
    exact listed_set (I.behind j k cs hj (lookL hl h1))
  · intro j b T cs hj hl
    obtain ⟨h1, h2⟩ := lookF hl
    exact (hb.block _ (Nat.lt_of_lt_of_le (hold j b T cs hj) I.kept.size)).trans (I.waits j b T cs hj h2)
theorem Inv.skip_ (sh : Shape ops its a0.tmps.size) (I : Inv ops its a0 w0 β listed a w) {i : Nat} {o : Oper} (ho : ops[i]? = some o) (hi : its[i]? = some .skip) (hlf : listed[i]? = some false) (haft : ∀ e ∈ o.after, Region.binds .any e = true → listed[e.on]? = some true)
    (hold : ∀ (j b : Nat) (T : TypeId) (cs : Array Value), its[j]? = some (.old b T cs) → b < w0.heap.size) :
    Inv ops its a0 w0 β (listed.setIfInBounds i true) (a.put o.dst undef) w := by
  have hb : Below w.heap.size w w := Below.refl _ _
  have hlt : i < listed.size := by rw [I.len]; exact itm_lt ho
  refine ⟨by simpa using I.len, by rw [put_defers]; exact I.defers, by rw [put_size]; exact I.tsize, I.frameDone sh ho hi hlf (fun _ _ => rfl) (fun _ _ => rfl), I.frameRest ho hlt, below_kept I.kept hb, I.closedSet ho haft, ?_, ?_, ?_, ?_, ?_, ?_⟩
  · intro j T z hj hl
    have hne : j ≠ i := by rintro rfl; rw [hi] at hj; cases hj
    obtain ⟨h1, h2, cs, h3, h4⟩ := I.news j T z hj (lookL hl hne)
    exact ⟨h1, Nat.lt_of_lt_of_le h2 hb.size, cs, (hb.block _ h2).trans h3, h4⟩
  · intro j k T T' z z' hj hk hl hl' hne
    have h1 : j ≠ i := by rintro rfl; rw [hi] at hj; cases hj
    have h2 : k ≠ i := by rintro rfl; rw [hi] at hk; cases hk
    exact I.apart j k T T' z z' hj hk (lookL hl h1) (lookL hl' h2) hne
  · intro j k cs T z hj hk hl hl'
    have h1 : j ≠ i := by rintro rfl; rw [hi] at hj; cases hj
    have h2 : k ≠ i := by rintro rfl; rw [hi] at hk; cases hk
    have h3 := I.puts j k cs T z hj hk (lookL hl h1) (lookL hl' h2)
    exact (hb.block _ (heap_lt h3)).trans h3
  · intro j b T cs hj hl
    have h1 : j ≠ i := by rintro rfl; rw [hi] at hj; cases hj
    have h3 := I.olds j b T cs hj (lookL hl h1)
    exact (hb.block _ (heap_lt h3)).trans h3
  · intro j k cs hj hl
    have h1 : j ≠ i := by rintro rfl; rw [hi] at hj; cases hj
    exact listed_set (I.behind j k cs hj (lookL hl h1))
  · intro j b T cs hj hl
    obtain ⟨h1, h2⟩ := lookF hl
    exact (hb.block _ (Nat.lt_of_lt_of_le (hold j b T cs hj) I.kept.size)).trans (I.waits j b T cs hj h2)
theorem Inv.new_ (sh : Shape ops its a0.tmps.size) (I : Inv ops its a0 w0 β listed a w) {i : Nat} {o : Oper} {T : TypeId} {z : Array Value} (ho : ops[i]? = some o) (hi : its[i]? = some (.new T z)) (hlf : listed[i]? = some false) (haft : ∀ e ∈ o.after, Region.binds .any e = true → listed[e.on]? = some true)
    (hold : ∀ (j b : Nat) (T : TypeId) (cs : Array Value), its[j]? = some (.old b T cs) → b < w0.heap.size) :
    Inv ops its a0 w0 (fun k => if k = i then w.heap.size else β k) (listed.setIfInBounds i true) (a.put o.dst (.pointer (some ⟨w.heap.size, 0, none⟩))) (w.alloc (.cells z T)) := by
  have hlt : i < listed.size := by rw [I.len]; exact itm_lt ho
  have hb : Below w.heap.size w (w.alloc (.cells z T)) := (Below.refl _ _).alloc (Nat.le_refl _) _
  have hne' : ∀ k, k ≠ i → (if k = i then w.heap.size else β k) = β k := fun k hk => if_neg hk
  refine ⟨by simpa using I.len, by rw [put_defers]; exact I.defers, by rw [put_size]; exact I.tsize, I.frameDone sh ho hi hlf hne' (fun _ _ => by simp [Item.value]), I.frameRest ho hlt, below_kept I.kept hb, I.closedSet ho haft, ?_, ?_, ?_, ?_, ?_, ?_⟩
  · intro j T' z' hj hl
    show _ ≤ (if j = i then w.heap.size else β j) ∧ (if j = i then w.heap.size else β j) < _ ∧ ∃ cs, _
    rcases Nat.decEq j i with hne | rfl
    · rw [if_neg hne]
      obtain ⟨h1, h2, cs, h3, h4⟩ := I.news j T' z' hj (lookL hl hne)
      exact ⟨h1, Nat.lt_of_lt_of_le h2 hb.size, cs, (hb.block _ h2).trans h3, h4⟩
    · rw [if_pos rfl]
      rw [hi] at hj
      cases hj
      exact ⟨I.kept.size, by simp, z, heap_alloc_new w _, rfl⟩
  · intro j k T1 T2 z1 z2 hj hk hl hl' hne
    show (if j = i then w.heap.size else β j) ≠ (if k = i then w.heap.size else β k)
    rcases Nat.decEq j i with h1 | rfl
    · rw [if_neg h1]
      obtain ⟨_, hj2, _⟩ := I.news j T1 z1 hj (lookL hl h1)
      rcases Nat.decEq k i with h2 | rfl
      · rw [if_neg h2]
        exact I.apart j k T1 T2 z1 z2 hj hk (lookL hl h1) (lookL hl' h2) hne
      · rw [if_pos rfl]; omega
    · rw [if_pos rfl, if_neg (Ne.symm hne)]
      obtain ⟨_, hk2, _⟩ := I.news k T2 z2 hk (lookL hl' (Ne.symm hne))
      omega
  · intro j k cs T1 z1 hj hk hl hl'
    show (w.alloc (.cells z T)).heap[(if k = i then w.heap.size else β k)]? = _
    have h1 : j ≠ i := by rintro rfl; rw [hi] at hj; cases hj
    have hlj := lookL hl h1
    rcases Nat.decEq k i with h2 | rfl
    · rw [if_neg h2]
      have h3 := I.puts j k cs T1 z1 hj hk hlj (lookL hl' h2)
      exact (hb.block _ (heap_lt h3)).trans h3
    · exact absurd (I.behind j k cs hj hlj) (by rw [hlf]; simp)
  · intro j b T1 cs hj hl
    have h1 : j ≠ i := by rintro rfl; rw [hi] at hj; cases hj
    have h3 := I.olds j b T1 cs hj (lookL hl h1)
    exact (hb.block _ (heap_lt h3)).trans h3
  · intro j k cs hj hl
    have h1 : j ≠ i := by rintro rfl; rw [hi] at hj; cases hj
    exact listed_set (I.behind j k cs hj (lookL hl h1))
  · intro j b T1 cs hj hl
    obtain ⟨h1, h2⟩ := lookF hl
    exact (hb.block _ (Nat.lt_of_lt_of_le (hold j b T1 cs hj) I.kept.size)).trans (I.waits j b T1 cs hj h2)
theorem Inv.put_ (sh : Shape ops its a0.tmps.size) (I : Inv ops its a0 w0 β listed a w) {i k : Nat} {o : Oper} {cs : Array Value} {T : TypeId} {z : Array Value} (ho : ops[i]? = some o) (hi : its[i]? = some (.put k cs)) (hk : its[k]? = some (.new T z))
    (hlf : listed[i]? = some false) (hlk : listed[k]? = some true) (hsz : cs.size = z.size) {w' : World} (hr : Rewrites w w' (β k) T cs) (haft : ∀ e ∈ o.after, Region.binds .any e = true → listed[e.on]? = some true)
    (hold : ∀ (j b : Nat) (T : TypeId) (cs : Array Value), its[j]? = some (.old b T cs) → b < w0.heap.size) :
    Inv ops its a0 w0 β (listed.setIfInBounds i true) (a.put o.dst undef) w' := by
  have hlt : i < listed.size := by rw [I.len]; exact itm_lt ho
  obtain ⟨n1, n2, cs0, n3, n4⟩ := I.news k T z hk hlk
  have hd := (sh.putDst i o k cs ho hi).1
  refine ⟨by simpa using I.len, by rw [put_defers]; exact I.defers, by rw [put_size]; exact I.tsize, I.frameDone sh ho hi hlf (fun _ _ => rfl) (fun d h => by rw [hd] at h; cases h), I.frameRest ho hlt,
    ⟨hr.os.trans I.kept.os, hr.tape.trans I.kept.tape, hr.output.trans I.kept.output, by rw [hr.size]; exact I.kept.size, fun b hb hb2 => (hr.block b (by omega)).trans (I.kept.block b hb hb2)⟩, I.closedSet ho haft, ?_, ?_, ?_, ?_, ?_, ?_⟩
  · intro j T' z' hj hl
    have hne : j ≠ i := by rintro rfl; rw [hi] at hj; cases hj
    obtain ⟨h1, h2, c, h3, h4⟩ := I.news j T' z' hj (lookL hl hne)
    refine ⟨h1, by rw [hr.size]; exact h2, ?_⟩
    rcases Nat.decEq j k with hjk | rfl
    · exact ⟨c, (hr.block _ (I.apart j k _ _ _ _ hj hk (lookL hl hne) hlk hjk)).trans h3, h4⟩
    · rw [hk] at hj
      cases hj
      exact ⟨cs, hr.this, hsz⟩
  · intro j l T1 T2 z1 z2 hj hl hlj hll hne
    have h1 : j ≠ i := by rintro rfl; rw [hi] at hj; cases hj
    have h2 : l ≠ i := by rintro rfl; rw [hi] at hl; cases hl
    exact I.apart j l T1 T2 z1 z2 hj hl (lookL hlj h1) (lookL hll h2) hne
  · intro j l c T1 z1 hj hl hlj hll
    have h2 : l ≠ i := by rintro rfl; rw [hi] at hl; cases hl
    have hll' := lookL hll h2
    rcases Nat.decEq j i with h1 | rfl
    · have h3 := I.puts j l c T1 z1 hj hl (lookL hlj h1) hll'
      have hlk' : l ≠ k := by
        rintro rfl
        exact h1 (sh.putOnce j i l c cs hj hi)
      exact (hr.block _ (I.apart l k _ _ _ _ hl hk hll' hlk hlk')).trans h3
    · rw [hi] at hj
      cases hj
      rw [hk] at hl
      cases hl
      exact hr.this
  · intro j b T1 c hj hl
    have h1 : j ≠ i := by rintro rfl; rw [hi] at hj; cases hj
    have h3 := I.olds j b T1 c hj (lookL hl h1)
    have := hold j b T1 c hj
    exact (hr.block _ (by omega)).trans h3
  · intro j l c hj hl
    rcases Nat.decEq j i with h1 | rfl
    · exact listed_set (I.behind j l c hj (lookL hl h1))
    · rw [hi] at hj
      cases hj
      exact listed_set hlk
  · intro j b T1 c hj hl
    obtain ⟨h1, h2⟩ := lookF hl
    have := hold j b T1 c hj
    exact (hr.block _ (by omega)).trans (I.waits j b T1 c hj h2)
theorem Inv.old_ (sh : Shape ops its a0.tmps.size) (I : Inv ops its a0 w0 β listed a w) {i b : Nat} {o : Oper} {cs : Array Value} {T : TypeId} (ho : ops[i]? = some o) (hi : its[i]? = some (.old b T cs))
    (hlf : listed[i]? = some false) {w' : World} (hr : Rewrites w w' b T cs) (haft : ∀ e ∈ o.after, Region.binds .any e = true → listed[e.on]? = some true)
    (hold : ∀ (j b : Nat) (T : TypeId) (cs : Array Value), its[j]? = some (.old b T cs) → b < w0.heap.size) :
    Inv ops its a0 w0 β (listed.setIfInBounds i true) (a.put o.dst undef) w' := by
  have hlt : i < listed.size := by rw [I.len]; exact itm_lt ho
  have hd := sh.oldDst i o b T cs ho hi
  have hbs := hold i b T cs hi
  refine ⟨by simpa using I.len, by rw [put_defers]; exact I.defers, by rw [put_size]; exact I.tsize, I.frameDone sh ho hi hlf (fun _ _ => rfl) (fun d h => by rw [hd] at h; cases h), I.frameRest ho hlt,
    ⟨hr.os.trans I.kept.os, hr.tape.trans I.kept.tape, hr.output.trans I.kept.output, by rw [hr.size]; exact I.kept.size, fun c hc hc2 => (hr.block c (by rintro rfl; rw [isOld_mem hi (waits_end sh i)] at hc2; cases hc2)).trans (I.kept.block c hc hc2)⟩, I.closedSet ho haft, ?_, ?_, ?_, ?_, ?_, ?_⟩
  · intro j T' z' hj hl
    have hne : j ≠ i := by rintro rfl; rw [hi] at hj; cases hj
    obtain ⟨h1, h2, c, h3, h4⟩ := I.news j T' z' hj (lookL hl hne)
    exact ⟨h1, by rw [hr.size]; exact h2, c, (hr.block _ (by omega)).trans h3, h4⟩
  · intro j l T1 T2 z1 z2 hj hl hlj hll hne
    have h1 : j ≠ i := by rintro rfl; rw [hi] at hj; cases hj
    have h2 : l ≠ i := by rintro rfl; rw [hi] at hl; cases hl
    exact I.apart j l T1 T2 z1 z2 hj hl (lookL hlj h1) (lookL hll h2) hne
  · intro j l c T1 z1 hj hl hlj hll
    have h1 : j ≠ i := by rintro rfl; rw [hi] at hj; cases hj
    have h2 : l ≠ i := by rintro rfl; rw [hi] at hl; cases hl
    have h3 := I.puts j l c T1 z1 hj hl (lookL hlj h1) (lookL hll h2)
    obtain ⟨h4, _, _⟩ := I.news l T1 z1 hl (lookL hll h2)
    exact (hr.block _ (by omega)).trans h3
  · intro j c T1 cs1 hj hl
    rcases Nat.decEq j i with h1 | rfl
    · have h3 := I.olds j c T1 cs1 hj (lookL hl h1)
      refine (hr.block _ ?_).trans h3
      rintro rfl
      exact h1 (sh.oldOnce j i c T1 T cs1 cs hj hi)
    · rw [hi] at hj
      cases hj
      exact hr.this
  · intro j l c hj hl
    have h1 : j ≠ i := by rintro rfl; rw [hi] at hj; cases hj
    exact listed_set (I.behind j l c hj (lookL hl h1))
  · intro j c T1 cs1 hj hl
    obtain ⟨h1, h2⟩ := lookF hl
    refine (hr.block _ ?_).trans (I.waits j c T1 cs1 hj h2)
    rintro rfl
    exact h1 (sh.oldOnce j i c T1 T cs1 cs hj hi)
structure Fin (ops : Array Oper) (its : List Item) (w0 : World) (β : Nat → Nat) (w : World) : Prop where
  kept : Kept (isOld ops its ops.size) w0 w
  news : ∀ (i : Nat) (T : TypeId) (z : Array Value), its[i]? = some (.new T z) → w0.heap.size ≤ β i ∧ β i < w.heap.size ∧ ∃ cs, w.heap[β i]? = some (.cells cs T (0, 0)) ∧ cs.size = z.size
  apart : ∀ (i j : Nat) (T T' : TypeId) (z z' : Array Value), its[i]? = some (.new T z) → its[j]? = some (.new T' z') → i ≠ j → β i ≠ β j
  puts : ∀ (i k : Nat) (cs : Array Value) (T : TypeId) (z : Array Value), its[i]? = some (.put k cs) → its[k]? = some (.new T z) → w.heap[β k]? = some (.cells cs T (0, 0))
  olds : ∀ (i b : Nat) (T : TypeId) (cs : Array Value), its[i]? = some (.old b T cs) → w.heap[b]? = some (.cells cs T (0, 0))
def finAct (ops : Array Oper) (its : List Item) (β : Nat → Nat) : Nat → Act → Act
  | 0, a => a
  | m + 1, a => match ops[m]?, its[m]? with
    | some o, some it => match o.dst with
      | some d => (finAct ops its β m a).put (some d) (it.value β m)
      | none => finAct ops its β m a
    | _, _ => finAct ops its β m a
theorem finAct_size (m : Nat) : (finAct ops its β m a).tmps.size = a.tmps.size ∧ (finAct ops its β m a).defers = a.defers := by
  induction m with
  | zero => exact ⟨rfl, rfl⟩
  | succ m ih =>
    unfold finAct
    split
    · split
      · exact ⟨by rw [put_size]; exact ih.1, by rw [put_defers]; exact ih.2⟩
      · exact ih
    · exact ih
theorem finAct_rest (m k : Nat) (h : ∀ (i : Nat) (o : Oper), i < m → ops[i]? = some o → o.dst ≠ some k) : (finAct ops its β m a).tmps[k]? = a.tmps[k]? := by
  induction m with
  | zero => rfl
  | succ m ih =>
    have ih' := ih (fun i o hi => h i o (by omega))
    unfold finAct
    split
    · rename_i o it ho hi
      split
      · rename_i d hd
        rw [put_other (fun e => h m o (by omega) ho (by rw [hd, e]))]
        exact ih'
      · exact ih'
    · exact ih'
theorem finAct_done (sh : Shape ops its a.tmps.size) (m : Nat) {i : Nat} {o : Oper} {it : Item} {d : Nat} (him : i < m) (ho : ops[i]? = some o) (hi : its[i]? = some it) (hd : o.dst = some d) :
    (finAct ops its β m a).tmps[d]? = some (it.value β i) := by
  induction m with
  | zero => omega
  | succ m ih =>
    unfold finAct
    rcases Nat.decEq i m with hne | rfl
    · have ih' := ih (by omega)
      split
      · rename_i p jt hp hj
        split
        · rename_i d' hd'
          rw [put_other (fun e => hne (by subst e; exact sh.once i m o p d' ho hp hd hd'))]
          exact ih'
        · exact ih'
      · exact ih'
    · rw [ho, hi]
      simp only [hd]
      exact put_this (by rw [(finAct_size i).1]; exact sh.lt i o d ho hd)
theorem Inv.fin_act (sh : Shape ops its a0.tmps.size) (I : Inv ops its a0 w0 β listed a w) (hall : ∀ i, i < ops.size → listed[i]? = some true) : a = finAct ops its β ops.size a0 := by
  obtain ⟨h1, h2⟩ := finAct_size (ops := ops) (its := its) (β := β) (a := a0) ops.size
  have ht : a.tmps = (finAct ops its β ops.size a0).tmps := by
    apply Array.ext_getElem?
    intro k
    by_cases hk : ∃ (i : Nat) (o : Oper), ops[i]? = some o ∧ o.dst = some k
    · obtain ⟨i, o, ho, hd⟩ := hk
      have hlt := itm_lt ho
      have hi : its[i]? = some (its[i]'(by rw [sh.len]; exact hlt)) := List.getElem?_eq_getElem _
      rw [I.done i o _ k ho hi (hall i hlt) hd, finAct_done sh ops.size hlt ho hi hd]
    · rw [I.rest k (fun i o ho _ hd => hk ⟨i, o, ho, hd⟩), finAct_rest ops.size k (fun i o _ ho hd => hk ⟨i, o, ho, hd⟩)]
  cases a with
  | mk t d =>
    cases hf : finAct ops its β ops.size a0 with
    | mk t' d' =>
      rw [hf] at ht h2
      simp only at ht h2
      have := I.defers
      simp only at this
      rw [ht, this, h2]
theorem Inv.fin_ (I : Inv ops its a0 w0 β listed a w) (hlen : its.length = ops.size) (hall : ∀ i, i < ops.size → listed[i]? = some true) : Fin ops its w0 β w := by
  have lt : ∀ (i : Nat) (it : Item), its[i]? = some it → listed[i]? = some true := fun i it h => hall i (by
    rcases Nat.lt_or_ge i its.length with h' | h'
    · omega
    · rw [List.getElem?_eq_none h'] at h; cases h)
  exact ⟨I.kept, fun i T z h => I.news i T z h (lt _ _ h), fun i j T T' z z' h h' hne => I.apart i j T T' z z' h h' (lt _ _ h) (lt _ _ h') hne,
    fun i k cs T z h h' => I.puts i k cs T z h h' (lt _ _ h) (lt _ _ h'), fun i b T cs h => I.olds i b T cs h (lt _ _ h)⟩
theorem Inv.wanted_ (I : Inv ops its a0 w0 β listed a w) {o : Oper} {it : Item} (haft : ∀ e ∈ o.after, Region.binds .any e = true → listed[e.on]? = some true) (hg : guardOk ops its o it = true) :
    Region.wanted o (yielded ops a.tmps) = !isSkip it := by
  unfold guardOk at hg
  unfold Region.wanted
  split at hg
  · rename_i hn
    rw [hn]
    simpa using hg.symm
  · rename_i j want hn
    rw [hn]
    rw [Bool.and_eq_true, List.any_eq_true] at hg
    obtain ⟨⟨e, he, hb⟩, hm⟩ := hg
    rw [Array.mem_toList_iff] at he
    rw [Bool.and_eq_true, beq_iff_eq] at hb
    have hl := haft e he hb.1
    rw [hb.2] at hl
    split at hm
    · rename_i q b hp hj
      rw [Bool.and_eq_true] at hm
      obtain ⟨hd, hx⟩ := hm
      obtain ⟨d, hd⟩ := Option.isSome_iff_exists.1 hd
      have hv := I.done j q _ d hp hj hl hd
      have hy : yielded ops a.tmps j = some b := by
        unfold yielded
        rw [hp]
        simp only [Option.bind_some, hd, hv, Item.value]
      simp only [hy]
      cases b <;> cases want <;> cases hs : isSkip it <;> simp_all
    · cases hm
def left (listed : Array Bool) : Nat := listed.toList.count false
theorem left_set {i : Nat} (h : listed[i]? = some false) : left (listed.setIfInBounds i true) + 1 = left listed := by
  unfold left
  rw [Array.toList_setIfInBounds]
  obtain ⟨l⟩ := listed
  simp only [List.getElem?_toArray] at h
  show List.count false (l.set i true) + 1 = List.count false l
  induction l generalizing i with
  | nil => simp at h
  | cons x l ih =>
    cases i with
    | zero =>
      simp only [List.getElem?_cons_zero, Option.some.injEq] at h
      subst h
      simp
    | succ i =>
      simp only [List.getElem?_cons_succ] at h
      have := ih h
      simp only [List.set_cons_succ, List.count_cons]
      omega
theorem all_of_ready (sh : Shape ops its a0.tmps.size) (hlen : listed.size = ops.size) (h : Region.ready .any ops listed = []) : ∀ i, i < ops.size → listed[i]? = some true := by
  intro i
  induction i using Nat.strongRecOn with
  | ind i ih =>
    intro hlt
    have hl : listed[i]? = some (listed[i]'(by omega)) := Array.getElem?_eq_getElem _
    cases hv : listed[i]'(by omega) with
    | true => rw [hl, hv]
    | false =>
      exfalso
      have ho : ops[i]? = some (ops[i]'hlt) := Array.getElem?_eq_getElem hlt
      have hmem : i ∈ Region.ready .any ops listed := by
        unfold Region.ready
        rw [List.mem_filter, List.mem_range, Bool.and_eq_true]
        refine ⟨hlt, ?_, ?_⟩
        · have hl2 : i < listed.size := by omega
          simp [Array.getD, hl2, hv]
        · rw [ho]
          simp only [Option.map_some, Option.getD_some, Array.all_eq_true']
          intro e he
          cases hbind : Region.binds .any e with
          | false => simp
          | true =>
            have hb := sh.back i _ ho e he hbind
            have h3 := ih e.on hb (by omega)
            have hl3 : e.on < listed.size := by omega
            rw [Array.getElem?_eq_getElem hl3] at h3
            simp [Array.getD, hl3, Option.some.inj h3]
      rw [h] at hmem
      cases hmem
theorem wpAny_inv (sh : Shape ops its a0.tmps.size)
    (hold : ∀ (j b : Nat) (T : TypeId) (cs : Array Value), its[j]? = some (.old b T cs) → ∃ cs0, w0.heap[b]? = some (.cells cs0 T (0, 0)) ∧ cs0.size = cs.size)
    (hput : ∀ (i k : Nat) (cs : Array Value) (T : TypeId) (z : Array Value), its[i]? = some (.put k cs) → its[k]? = some (.new T z) → cs.size = z.size)
    (hstep : ∀ (i : Nat) (o : Oper) (it : Item), ops[i]? = some o → its[i]? = some it → StepOk P Q ops its a0 w0 i o it)
    (hend : ∀ β w, Fin ops its w0 β w → Q .normal (finAct ops its β ops.size a0) w) :
    ∀ (fuel : Nat) (β : Nat → Nat) (listed : Array Bool) (a : Act) (w : World), Inv ops its a0 w0 β listed a w → left listed ≤ fuel → wpAny P .any ops Q fuel listed a w := by
  have hold' : ∀ (j b : Nat) (T : TypeId) (cs : Array Value), its[j]? = some (.old b T cs) → b < w0.heap.size := fun j b T cs h => by
    obtain ⟨cs0, h1, _⟩ := hold j b T cs h
    exact heap_lt h1
  have done : ∀ (β : Nat → Nat) (listed : Array Bool) (a : Act) (w : World), Inv ops its a0 w0 β listed a w → Region.ready .any ops listed = [] → Q .normal a w := fun β listed a w I hr => by
    have hall := all_of_ready sh I.len hr
    rw [I.fin_act sh hall]
    exact hend β w (I.fin_ sh.len hall)
  intro fuel
  induction fuel with
  | zero =>
    intro β listed a w I hc
    have hr : Region.ready .any ops listed = [] := by
      rcases hrd : Region.ready .any ops listed with _ | ⟨i, l⟩
      · rfl
      · exfalso
        obtain ⟨o, ho, hf, _⟩ := ready_spec I.len (i := i) (by rw [hrd]; exact List.mem_cons_self)
        have := left_set hf
        omega
    exact ⟨hr, done β listed a w I hr⟩
  | succ fuel ih =>
    intro β listed a w I hc
    refine ⟨done β listed a w I, fun i hi => ?_⟩
    obtain ⟨o, ho, hf, haft⟩ := ready_spec I.len hi
    have hlt := itm_lt ho
    have hit : its[i]? = some (its[i]'(by rw [sh.len]; exact hlt)) := List.getElem?_eq_getElem _
    have E := I.env sh haft
    have hstep' := hstep i o _ ho hit
    have hkA := I.keptAt sh hf
    have hcount := left_set hf
    have next : ∀ (β' : Nat → Nat) (a' : Act) (w' : World), Inv ops its a0 w0 β' (listed.setIfInBounds i true) a' w' → wpAny P .any ops Q fuel (listed.setIfInBounds i true) a' w' := fun β' a' w' I' => ih β' _ a' w' I' (by omega)
    unfold wpOp
    rw [ho]
    have hg := sh.guard i o _ ho hit
    generalize its[i]'(by rw [sh.len]; exact hlt) = it at hit hstep' hg
    have hw : Region.wanted o (yielded ops a.tmps) = !isSkip it := I.wanted_ haft hg
    simp only [hw]
    by_cases hs : isSkip it = true
    · rw [hs]
      simp only [Bool.not_true, Bool.false_eq_true, if_false]
      cases it <;> simp only [isSkip, Bool.false_eq_true] at hs
      exact next β _ _ (I.skip_ sh ho hit hf haft hold')
    rw [Bool.not_eq_true] at hs
    rw [hs]
    simp only [Bool.not_false, if_true]
    refine .inl ?_
    cases it with
    | skip => simp [isSkip] at hs
    | val v => exact hstep' a w _ E hkA (fun w' hb => next β _ _ (I.val sh ho hit hf hb haft hold'))
    | new T z => exact hstep' a w _ E hkA (next _ _ _ (I.new_ sh ho hit hf haft hold'))
    | put k cs =>
      obtain ⟨hd, ⟨e, he, hb, hek⟩, T, z, hk⟩ := sh.putDst i o k cs ho hit
      have hlk : listed[k]? = some true := by rw [← hek]; exact haft e he hb
      obtain ⟨n1, n2, cs0, n3, n4⟩ := I.news k T z hk hlk
      have hkl : k < ops.size := by
        rcases Nat.lt_or_ge k its.length with h | h
        · rw [← sh.len]; exact h
        · rw [List.getElem?_eq_none h] at hk; cases hk
      have hok : ops[k]? = some (ops[k]'hkl) := Array.getElem?_eq_getElem hkl
      obtain ⟨d, hdk⟩ := sh.newDst k _ T z hok hk
      exact hstep' T z hk a w _ (β k) cs0 d E hkA (by rw [hok]; exact hdk) (I.done k _ _ d hok hk hlk hdk) n3 n4 (fun w' hr => next β _ _ (I.put_ sh ho hit hk hf hlk (hput i k cs T z hit hk) hr haft hold'))
    | old b T cs =>
      obtain ⟨cs0, h1, h2⟩ := hold i b T cs hit
      exact hstep' a w _ cs0 E hkA (I.waits i b T cs hit hf) ((I.waits i b T cs hit hf).trans h1) h2 (fun w' hr => next β _ _ (I.old_ sh ho hit hf hr haft hold'))
theorem inv_start : Inv ops its a0 w0 β (Array.replicate ops.size false) a0 w0 := by
  have no : ∀ i, (Array.replicate ops.size false)[i]? ≠ some true := fun i h => by
    rw [Array.getElem?_replicate] at h
    split at h <;> cases h
  exact ⟨by simp, rfl, rfl, fun i _ _ _ _ _ h => absurd h (no i), fun _ _ => rfl, ⟨rfl, rfl, rfl, Nat.le_refl _, fun _ _ _ => rfl⟩, fun i _ _ h => absurd h (no i), fun i _ _ _ h => absurd h (no i), fun i _ _ _ _ _ _ _ h => absurd h (no i),
    fun i _ _ _ _ _ _ h => absurd h (no i), fun i _ _ _ _ h => absurd h (no i), fun i _ _ _ h => absurd h (no i), fun _ _ _ _ _ _ => rfl⟩
theorem wp_region_grow {id : Nat} {ops : Array Oper} {a0 : Act} {w : World} (its : List Item) (hm : P.follows .mixedOrders = true) (sh : shape ops its a0.tmps.size = true) (hg : ∀ (i : Nat) (o : Oper) (it : Item), ops[i]? = some o → its[i]? = some it → guardOk ops its o it = true) (hnd : (olds its).Nodup)
    (hold : ∀ (j b : Nat) (T : TypeId) (cs : Array Value), its[j]? = some (.old b T cs) → ∃ cs0, w.drew.heap[b]? = some (.cells cs0 T (0, 0)) ∧ cs0.size = cs.size)
    (hput : ∀ (i k : Nat) (cs : Array Value) (T : TypeId) (z : Array Value), its[i]? = some (.put k cs) → its[k]? = some (.new T z) → cs.size = z.size)
    (hstep : ∀ (i : Nat) (o : Oper) (it : Item), ops[i]? = some o → its[i]? = some it → StepOk P Q ops its a0 w.drew i o it)
    (hend : ∀ β w', Fin ops its w.drew β w' → Q .normal (finAct ops its β ops.size a0) w') : (Code.region id ops true).wp P Q a0 w :=
  wp_region_any hm (wpAny_inv (Shape.of sh hg hnd) hold hput hstep hend _ (fun _ => 0) _ _ _ inv_start (by simp [left]))
def noOlds (its : List Item) : Bool := its.all fun | .old _ _ _ => false | _ => true
theorem noOlds_spec (h : noOlds its = true) : ∀ (j b : Nat) (T : TypeId) (cs : Array Value), its[j]? ≠ some (.old b T cs) := fun j b T cs hj => by
  unfold noOlds at h
  rw [List.all_eq_true] at h
  have := h _ (List.mem_of_getElem? hj)
  cases this
theorem noOlds_isOld (hno : noOlds its = true) (i b : Nat) : isOld ops its i b = false := by
  unfold isOld
  rw [List.any_eq_false]
  intro j hj
  split
  · rename_i b' T cs h
    exact absurd h (noOlds_spec hno j b' T cs)
  · simp
theorem Kept.cells {i : Nat} (h : Kept (isOld ops its i) w0 w) (hno : noOlds its = true) : (∀ b o, b < w0.heap.size → w.cell? ⟨b, o, none⟩ = w0.cell? ⟨b, o, none⟩) ∧ (∀ b o, b < w0.heap.size → w.frozen? ⟨b, o, none⟩ = w0.frozen? ⟨b, o, none⟩) :=
  ⟨fun b o hb => World.cell?_of_block (w := w0) (h.block b hb (noOlds_isOld hno i b)), fun b o hb => World.frozen?_of_block (w := w0) (h.block b hb (noOlds_isOld hno i b))⟩
theorem cell_blk {b : Nat} {T : TypeId} {cs : Array Value} (h : w.heap[b]? = some (.cells cs T (0, 0))) (i : Nat) : w.cell? ⟨b, i, none⟩ = cs[i]? := cell_of_row w b i cs T (0, 0) h
theorem free_blk {b : Nat} {T : TypeId} {cs : Array Value} (h : w.heap[b]? = some (.cells cs T (0, 0))) (i : Nat) : w.frozen? ⟨b, i, none⟩ = false := by
  simp [World.frozen?, h]
theorem Kept.below {i : Nat} (h : Kept (isOld ops its i) w0 w) (hno : noOlds its = true) : Below w0.heap.size w0 w :=
  ⟨h.os, h.tape, h.output, h.size, fun b hb => h.block b hb (noOlds_isOld hno i b)⟩
end
end Go.Proofs.Yteodlcpcgfjdcaa.E.R
end
section
namespace Go.Proofs.Yteodlcpcgfjdcaa.E
open Go Go.RowKit
inductive V where
  | raw (v : Value)
  | any (k : Nat)
  | ptr (b off : Nat)
  | slc (b off len cap : Nat)
  | fn (f : Fn) (first cap : List V)
  | agg (l : List V)
  | tup (l : List V)
  | lit (b : Bool)
structure Ren where
  blk : Nat → Nat
  unk : Nat → Value
mutual
def V.conc (ρ : Ren) : V → Value
  | .raw v => v
  | .any k => ρ.unk k
  | .ptr b o => .pointer (some ⟨ρ.blk b, o, none⟩)
  | .slc b o l c => .slice (some ⟨ρ.blk b, o, none⟩) l c
  | .fn f x y => .func f (concs ρ x).toArray (concs ρ y).toArray
  | .agg l => .agg (concs ρ l).toArray
  | .tup l => .tuple (concs ρ l).toArray
  | .lit b => .bool b
def concs (ρ : Ren) : List V → List Value
  | [] => []
  | x :: l => x.conc ρ :: concs ρ l
end
mutual
def V.under (n : Nat) : V → Bool
  | .raw _ => true
  | .any _ => false
  | .ptr b _ => decide (b < n)
  | .slc b _ _ _ => decide (b < n)
  | .fn _ x y => unders n x && unders n y
  | .agg l => unders n l
  | .tup l => unders n l
  | .lit _ => true
def unders (n : Nat) : List V → Bool
  | [] => true
  | x :: l => x.under n && unders n l
end
def V.slotOk (n : Nat) : V → Bool
  | .any _ => true
  | v => v.under n
structure Blk where
  cells : List V
  ty : TypeId
abbrev Heap := List (Option Blk)
structure Cfg where
  P : Program
  /-- The blocks that were there. -/
  H0 : Heap
  /-- Below this name lie blocks that were there. -/
  L : Nat
  /-- Package variables that have names. -/
  G : List (Nat × Nat)
  /-- Sums stay bare, and their range is owed. -/
  bare : Bool
  /-- Functions that can be entered. -/
  fns : FuncId → Bool
inductive Ex where
  | normal
  | exit (id : Nat)
  | ret
def Ex.to : Ex → Exit
  | .normal => .normal
  | .exit id => .exit id
  | .ret => .ret
inductive Ans where
  | br (b : Bool)
  | go
  | ret (v : V)
  | reth (v : V) (h : Heap)
  | loop (e : Ex) (t : List V) (h : Heap)
  | olds (l : List (Nat × Nat))
  | val (b : Nat) (v : V)
  | cells (b : Nat) (l : List V)
def cellsV : V → Option (List V)
  | .raw v => some (v.cells.toList.map .raw)
  | .any _ => none
  | .agg l => some l
  | .tup _ => none
  | x => some [x]
def raws : List V → Option (List Value)
  | [] => some []
  | .raw v :: l => (raws l).map (v :: ·)
  | _ :: _ => none
def mkAgg (l : List V) : V := match raws l with
  | some vs => .raw (.agg vs.toArray)
  | none => .agg l
def mkTup (l : List V) : V := match raws l with
  | some vs => .raw (.tuple vs.toArray)
  | none => .tup l
def pureRun (P : Program) {α : Type} : Sem α → Option α
  | .pure a => some a
  | .program k => pureRun P (k P)
  | .mark _ k => pureRun P k
  | _ => none
theorem pureRun_run {P : Program} {α : Type} {s : Sem α} {x : α} (h : pureRun P s = some x) (w : World) : s.run P w = .ok x w := by
  induction s with
  | pure a => simp only [pureRun, Option.some.injEq] at h; subst h; rfl
  | program k ih => exact ih P h
  | mark m k ih => exact ih h
  | _ => simp [pureRun] at h
def inR (k : IntKind) (n : Int) : Prop := k.wrap n = n
def opnd (c : Cfg) (t : List V) : Operand → Option V
  | .tmp s => match t[s]? with
    | some (.any _) => none
    | some (.lit b) => some (.raw (.bool b))
    | r => r
  | .const v => some (.raw v)
  | .func f => some (.fn (.func f) [] [])
  | .global g => match c.G.find? (fun p => p.1 == g) with
    | some p => some (.ptr p.2 0)
    | none => none
def rawOf (c : Cfg) (t : List V) (x : Operand) : Value := match opnd c t x with
  | some (.raw v) => v
  | _ => undef
def isRaw (c : Cfg) (t : List V) (x : Operand) : Bool := match opnd c t x with
  | some (.raw _) => true
  | _ => false
def plainOpnds : Op → Option (List Operand)
  | .binOp _ _ x y _ => some [x, y]
  | .unOp _ _ x => some [x]
  | .convert _ _ x => some [x]
  | .field _ x _ => some [x]
  | .index _ x ix => some [x, ix]
  | .extract t _ => some [t]
  | .build _ parts => some (parts.toList.map (·.2))
  | .call ⟨.builtin _, args, _⟩ => some args.toList
  | _ => none
structure Out where
  v : V
  h : Heap
  ans : List Ans
  cons : List Prop
def putAt (cs : List V) (off : Nat) (xs : List V) : List V := cs.take off ++ xs ++ cs.drop (off + xs.length)
def bareOp (o : Op) (c : Cfg) (t : List V) : Option (V × List Prop) :=
  if c.bare then
    match o with
    | .binOp b _ x y _ =>
      match opnd c t x, opnd c t y with
      | some (.raw (.int k a)), some (.raw (.int k' d)) =>
        if k = k' then
          match b with
          | .add => some (.raw (.int k (a + d)), [inR k (a + d)])
          | .sub => some (.raw (.int k (a - d)), [inR k (a - d)])
          | .mul => some (.raw (.int k (a * d)), [inR k (a * d)])
          | .quo => some (.raw (.int k (a.tdiv d)), [d ≠ 0, inR k (a.tdiv d)])
          | .rem => some (.raw (.int k (a.tmod d)), [d ≠ 0])
          | _ => none
        else none
      | _, _ => none
    | .unOp .neg _ x =>
      match opnd c t x with
      | some (.raw (.int k a)) => some (.raw (.int k (-a)), [inR k (-a)])
      | _ => none
    | .convert src dst x =>
      match opnd c t x with
      | some (.raw (.int k0 a)) =>
        match pureRun c.P (underlying src), pureRun c.P (underlying dst) with
        | some (.int _), some (.int k) => some (.raw (.int k a), [inR k a])
        | _, _ => none
      | _ => none
    | _ => none
  else none
def loadV (c : Cfg) (h : Heap) (t : TypeId) (b off : Nat) : Option V :=
  match h[b]?, pureRun c.P (isAgg t), pureRun c.P (Go.sizeOf t) with
  | some (some B), some true, some n => if off + n ≤ B.cells.length then some (mkAgg ((B.cells.drop off).take n)) else none
  | some (some B), some false, _ => B.cells[off]?
  | _, _, _ => none
def oneCells : List V → Bool
  | [] => true
  | .raw (.agg _) :: _ => false
  | .raw (.tuple _) :: _ => false
  | .any _ :: _ => false
  | .agg _ :: _ => false
  | .tup _ :: _ => false
  | _ :: l => oneCells l
def storeV (c : Cfg) (lim : Nat) (h : Heap) (t : TypeId) (b off : Nat) (x : V) : Option Heap :=
  match h[b]?, cellsV x, pureRun c.P (Go.sizeOf t) with
  | some (some B), some xs, some n =>
    if lim ≤ b ∧ xs.length = n ∧ off + xs.length ≤ B.cells.length ∧ oneCells xs = true ∧ unders h.length xs = true then some (h.set b (some { B with cells := putAt B.cells off xs })) else none
  | _, _, _ => none
def fieldOff (c : Cfg) (s : TypeId) (f : Nat) : Option Nat :=
  match pureRun c.P (underlying s) with
  | some (.struct fields) => match fields[f]? with
    | some fd => match pureRun c.P (Go.sizeOf fd.type) with
      | some n => if n = 0 then none else some fd.offset
      | none => none
    | none => none
  | _ => none
abbrev CallF := FuncId → List V → Heap → Nat → List Ans → Option Out
def opnds (c : Cfg) (t : List V) : List Operand → Option (List V)
  | [] => some []
  | x :: l => match opnd c t x, opnds c t l with
    | some v, some vs => some (v :: vs)
    | _, _ => none
def evGen (c : Cfg) (t : List V) (h : Heap) (ans : List Ans) (o : Oper) : Option Out :=
  match bareOp o.op c t with
  | some (v, cons) => some ⟨v, h, ans, cons⟩
  | none => match plainOpnds o.op with
    | some l => if l.all (isRaw c t) then
        match pureRun c.P (execOp (rawOf c t) o) with
        | some (.value v) => some ⟨.raw v, h, ans, []⟩
        | _ => none
      else none
    | none => none
def lenV (c : Cfg) (t : List V) (args : Array Operand) (ats : Array TypeId) : Option V :=
  match args.toList, ats[0]? with
  | [x], some T => match opnd c t x, pureRun c.P (underlying T) with
    | some (.slc _ _ l _), some (.slice _) => some (.raw (goInt l))
    | _, _ => none
  | _, _ => none
def indexV (c : Cfg) (t : List V) (T : TypeId) (x ix : Operand) : Option (V × List Prop) :=
  match opnd c t x, opnd c t ix, pureRun c.P (underlying T) with
  | some (.slc b off l _), some (.raw (.int _ i)), some (.slice e) => match pureRun c.P (Go.sizeOf e) with
    | some n => some (.ptr b (off + i.toNat * n), [0 ≤ i ∧ i < (l : Int)])
    | none => none
  | some (.ptr b off), some (.raw (.int _ i)), some (.array l e) => match pureRun c.P (Go.sizeOf e) with
    | some n => some (.ptr b (off + i.toNat * n), [0 ≤ i ∧ i < (l : Int)])
    | none => none
  | _, _, _ => none
def litCells (c : Cfg) (T : TypeId) (len : Nat) (parts : List (Nat × Value)) : Option (TypeId × Array Value) :=
  match pureRun c.P (underlying T) with
  | some (.slice e) => match pureRun c.P (Go.sizeOf e), pureRun c.P (zeroValue e) with
    | some n, some z => if len * n = 0 ∨ len * n > 2 ^ 24 then none else
      match Instr.fill (fun i => some (i * n, n)) (Array.map (fun x => z.cells[x % z.cells.size]!) (Array.range (len * n))) parts with
      | some cells => some (e, cells)
      | none => none
    | _, _ => none
  | _ => none
def eqFlds (P : Program) (eq : TypeId → Value → Value → Option Bool) (xs ys : Array Value) : List Field → Option Bool
  | [] => some true
  | f :: l => if f.name = "_" then eqFlds P eq xs ys l else
    match pureRun P (part f.type xs f.offset), pureRun P (part f.type ys f.offset) with
    | some x, some y => match eq f.type x y, eqFlds P eq xs ys l with
      | some p, some q => some (p && q)
      | _, _ => none
    | _, _ => none
def eqElems (P : Program) (eq : TypeId → Value → Value → Option Bool) (e : TypeId) (n : Nat) (xs ys : Array Value) : List Nat → Option Bool
  | [] => some true
  | i :: l => match pureRun P (part e xs (i * n)), pureRun P (part e ys (i * n)) with
    | some x, some y => match eq e x y, eqElems P eq e n xs ys l with
      | some p, some q => some (p && q)
      | _, _ => none
    | _, _ => none
def eqIn (P : Program) : Nat → TypeId → Value → Value → Option Bool
  | 0, _, _, _ => none
  | d + 1, t, x, y => match pureRun P (underlying t), x, y with
    | some .bool, .bool a, .bool b => some (a == b)
    | some (.int _), .int k a, .int k' b => if k = k' then some (a == b) else none
    | some (.struct fields), .agg xs, .agg ys => if P.stoodInHeld t then none else eqFlds P (eqIn P d) xs ys fields.toList
    | some (.array len e), .agg xs, .agg ys => match pureRun P (Go.sizeOf e) with
      | some n => eqElems P (eqIn P d) e n xs ys (List.range' 0 len)
      | none => none
    | _, _, _ => none
def eqV (c : Cfg) (t : List V) (b : BinOp) (T : TypeId) (x y : Operand) : Option V :=
  match b, opnd c t x, opnd c t y with
  | .eql, some (.raw (.agg xs)), some (.raw (.agg ys)) => if c.P.eqGuardType c.P.depth T then none else (eqIn c.P 12 T (.agg xs) (.agg ys)).map fun r => .raw (.bool r)
  | .neq, some (.raw (.agg xs)), some (.raw (.agg ys)) => if c.P.eqGuardType c.P.depth T then none else (eqIn c.P 12 T (.agg xs) (.agg ys)).map fun r => .raw (.bool (!r))
  | _, _, _ => none
def loadBlk (c : Cfg) (t : TypeId) (B : Blk) (off : Nat) : Option V :=
  match pureRun c.P (isAgg t), pureRun c.P (Go.sizeOf t) with
  | some true, some n => if off + n ≤ B.cells.length then some (mkAgg ((B.cells.drop off).take n)) else none
  | some false, _ => B.cells[off]?
  | _, _ => none
def storeBlk (c : Cfg) (names : Nat) (t : TypeId) (B : Blk) (off : Nat) (x : V) : Option (List V) :=
  match cellsV x, pureRun c.P (Go.sizeOf t) with
  | some xs, some n => if xs.length = n ∧ off + xs.length ≤ B.cells.length ∧ oneCells xs = true ∧ unders names xs = true then some (putAt B.cells off xs) else none
  | _, _ => none
def loadA (c : Cfg) (h : Heap) (ty : TypeId) (b off : Nat) (ans : List Ans) : Option (V × List Ans × List Prop) :=
  match ans with
  | .val b' v :: ans' => if b' = b then match h[b]? with
      | some (some B) => some (v, ans', [loadBlk c ty B off = some v])
      | _ => none
    else (loadV c h ty b off).map fun v => (v, ans, [])
  | _ => (loadV c h ty b off).map fun v => (v, ans, [])
def storeA (c : Cfg) (lim : Nat) (h : Heap) (ty : TypeId) (b off : Nat) (x : V) (ans : List Ans) : Option (Heap × List Ans × List Prop) :=
  match ans with
  | .cells b' cs :: ans' => if b' = b then match h[b]? with
      | some (some B) => if lim ≤ b then some (h.set b (some { B with cells := cs }), ans', [storeBlk c h.length ty B off x = some cs]) else none
      | _ => none
    else (storeV c lim h ty b off x).map fun h' => (h', ans, [])
  | _ => (storeV c lim h ty b off x).map fun h' => (h', ans, [])
def evOp (c : Cfg) (cf : CallF) (lim : Nat) (t : List V) (h : Heap) (ans : List Ans) (o : Oper) : Option Out :=
  match o.op with
  | .move x => match opnd c t x with
    | some v => some ⟨v, h, ans, []⟩
    | none => none
  | .assign x => match opnd c t x with
    | some v => some ⟨v, h, ans, []⟩
    | none => none
  | .pick x y z => match opnd c t x, ans with
    | some (.raw (.bool b)), .br q :: ans' => match opnd c t (if q then y else z) with
      | some v => some ⟨v, h, ans', [b = q]⟩
      | none => none
    | _, _ => none
  | .alloc ty => match pureRun c.P (zeroValue ty) with
    | some z => some ⟨.ptr h.length 0, h ++ [some ⟨z.cells.toList.map .raw, ty⟩], ans, []⟩
    | none => none
  | .box ty x => match (opnd c t x).bind cellsV with
    | some xs => some ⟨.ptr h.length 0, h ++ [some ⟨xs, ty⟩], ans, []⟩
    | none => none
  | .load ty x => match opnd c t x with
    | some (.ptr b off) => match loadA c h ty b off ans with
      | some (v, ans', cons) => some ⟨v, h, ans', cons⟩
      | none => none
    | _ => none
  | .store ty x y => match opnd c t x, opnd c t y with
    | some (.ptr b off), some v => match storeA c lim h ty b off v ans with
      | some (h', ans', cons) => some ⟨.raw undef, h', ans', cons⟩
      | none => none
    | _, _ => none
  | .fieldAddr s x f => match opnd c t x, fieldOff c s f with
    | some (.ptr b off), some d => some ⟨.ptr b (off + d), h, ans, []⟩
    | _, _ => none
  | .nilCheck x => match opnd c t x with
    | some (.ptr b off) => some ⟨.ptr b off, h, ans, []⟩
    | some (.fn (.func f) x y) => some ⟨.fn (.func f) x y, h, ans, []⟩
    | _ => none
  | .makeFunc f x y => match opnds c t x.toList, opnds c t y.toList with
    | some xs, some ys => some ⟨.fn f xs ys, h, ans, []⟩
    | _, _ => none
  | .call ⟨.value f, args, _⟩ => match opnd c t f, opnds c t args.toList with
    | some (.fn (.func f) first cap), some xs => if c.fns f then cf f (first ++ xs ++ cap) h lim ans else none
    | _, _ => none
  | .call ⟨.builtin .len, args, ats⟩ => match lenV c t args ats with
    | some v => some ⟨v, h, ans, []⟩
    | none => evGen c t h ans o
  | .indexAddr T x ix => match indexV c t T x ix with
    | some (v, cons) => some ⟨v, h, ans, cons⟩
    | none => none
  | .buildSlice T len parts => if parts.toList.all (fun p => isRaw c t p.2) then
      match litCells c T len (parts.toList.map fun p => (p.1, rawOf c t p.2)) with
      | some (e, cells) => some ⟨.slc h.length 0 len len, h ++ [some ⟨cells.toList.map .raw, e⟩], ans, []⟩
      | none => none
    else none
  | .makeSlice T l cp => match opnd c t l, opnd c t cp, c.P.underlying T with
    | some (.raw (.int _ n)), some (.raw (.int _ m)), some (.slice e) => match c.P.info? e with
      | some i => match i.zero with
        | some z => some ⟨.slc h.length 0 n.toNat m.toNat, h ++ [some ⟨(madeCells z.cells (m.toNat * i.size)).toList.map .raw, e⟩], ans, [0 ≤ n ∧ n ≤ m ∧ (i.bytes : Int) * m ≤ 281474976710656 ∧ m ≤ 9223372036854775807]⟩
        | none => none
      | none => none
    | _, _, _ => none
  | .binOp b T x y _ => match eqV c t b T x y with
    | some v => some ⟨v, h, ans, []⟩
    | none => evGen c t h ans o
  | _ => evGen c t h ans o
def putT (t : List V) (d : Option Nat) (v : V) : List V := match d with
  | some d => t.set d v
  | none => t
structure GOut where
  want : Bool
  t : List V
  ans : List Ans
  cons : List Prop
def evGuard (ops : Array Oper) (t : List V) (ans : List Ans) (o : Oper) : Option GOut :=
  match o.guard with
  | none => some ⟨true, t, ans, []⟩
  | some (j, want) => match (ops[j]?).bind (·.dst) with
    | some d => match t[d]? with
      | some (.lit b) => some ⟨b == want, t, ans, []⟩
      | some (.raw (.bool b)) => match ans with
        | .br q :: ans' => some ⟨q == want, t.set d (.lit q), ans', [b = q]⟩
        | _ => none
      | some (.raw (.tuple _)) => some ⟨false, t, ans, []⟩
      | _ => none
    | none => none
structure ROut where
  t : List V
  h : Heap
  ans : List Ans
  cons : List Prop
def evOps (c : Cfg) (cf : CallF) (lim : Nat) (ops : Array Oper) : List Oper → List V → Heap → List Ans → Option ROut
  | [], t, h, ans => some ⟨t, h, ans, []⟩
  | o :: rest, t, h, ans => match evGuard ops t ans o with
    | none => none
    | some g => if g.want then
        match evOp c cf lim g.t h g.ans o with
        | none => none
        | some r => match evOps c cf lim ops rest (putT g.t o.dst r.v) r.h r.ans with
          | none => none
          | some q => some { q with cons := g.cons ++ (r.cons ++ q.cons) }
      else match evOps c cf lim ops rest (putT g.t o.dst (.raw undef)) h g.ans with
        | none => none
        | some q => some { q with cons := g.cons ++ q.cons }
inductive AItem where
  | val (v : V)
  | new (T : TypeId) (z : List V)
  | put (k : Nat) (cs : List V)
  | old (b : Nat) (T : TypeId) (cs : List V)
  | skip
def AItem.to (ρ : Ren) : AItem → R.Item
  | .val v => .val (v.conc ρ)
  | .new T z => .new T (concs ρ z).toArray
  | .put k cs => .put k (concs ρ cs).toArray
  | .old b T cs => .old (ρ.blk b) T (concs ρ cs).toArray
  | .skip => .skip
def cntNew : List AItem → Nat
  | [] => 0
  | .new _ _ :: l => cntNew l + 1
  | _ :: l => cntNew l
def AItem.slot (n0 : Nat) (before : List AItem) : AItem → V
  | .val v => v
  | .new _ _ => .ptr (n0 + cntNew before) 0
  | _ => .raw undef
def writer (ops : Array Oper) (s : Nat) : Option Nat := (List.range ops.size).find? (fun j => (ops[j]?.bind (·.dst)) == some s)
def bound (o : Oper) (j : Nat) : Bool := o.after.toList.any (fun e => Region.binds .any e && e.on == j)
def visible (ops : Array Oper) (its : List AItem) (o : Oper) (s : Nat) : Bool := match writer ops s with
  | none => true
  | some j => bound o j && (match its[j]? with | some (.val _) => true | _ => false)
def seen (ops : Array Oper) (its : List AItem) (o : Oper) : Operand → Bool
  | .tmp s => visible ops its o s
  | _ => true
def usedOpnds (ans : List Ans) : Op → Option (List Operand)
  | .move x => some [x]
  | .assign x => some [x]
  | .pick x y z => match ans with
    | .br q :: _ => some [x, if q then y else z]
    | _ => none
  | .load _ x => some [x]
  | .fieldAddr _ x _ => some [x]
  | .nilCheck x => some [x]
  | .indexAddr _ x ix => some [x, ix]
  | .makeFunc _ x y => some (x.toList ++ y.toList)
  | .call ⟨.value f, args, _⟩ => some (f :: args.toList)
  | .alloc _ => none
  | .box _ _ => none
  | .store _ _ _ => none
  | .buildSlice _ _ _ => none
  | o => plainOpnds o
def underO (c : Cfg) (t : List V) (n : Nat) (x : Operand) : Bool := match opnd c t x with
  | some v => v.under n
  | none => false
def killOne (h : Heap) (b : Nat) : Heap := h.set b none
def killed (L : Nat) (ops : Array Oper) (olds : List (Nat × Nat)) (i : Nat) (h : Heap) : Heap := olds.foldl (fun h p => if R.waitsFor ops p.1 i || decide (p.2 < L) then h else killOne h p.2) h
structure DOut where
  it : AItem
  ans : List Ans
  cons : List Prop
def evBody (c : Cfg) (cf : CallF) (lim : Nat) (ops : Array Oper) (h : Heap) (olds : List (Nat × Nat)) (acc : List AItem) (t : List V) (ans : List Ans) (o : Oper) : Option DOut :=
  match o.op with
  | .alloc T => match pureRun c.P (zeroValue T) with
    | some z => some ⟨.new T (z.cells.toList.map .raw), ans, []⟩
    | none => none
  | .box T x => if seen ops acc o x && underO c t h.length x then match (opnd c t x).bind cellsV with
      | some xs => some ⟨.new T xs, ans, []⟩
      | none => none
    else none
  | .store T x y => if seen ops acc o y && underO c t h.length y then
      match (opnd c t y).bind cellsV, pureRun c.P (Go.sizeOf T), x with
      | some xs, some n, .tmp d => if xs.length = n ∧ oneCells xs = true then
          match writer ops d with
          | none => match opnd c t x with
            | some (.ptr b off) => match h[b]? with
              | some (some B) => if lim ≤ b ∧ off + xs.length ≤ B.cells.length ∧ olds.contains (acc.length, b) = true then some ⟨.old b B.ty (putAt B.cells off xs), ans, []⟩ else none
              | _ => none
            | _ => none
          | some k => match acc[k]? with
            | some (.new _ z) => if xs.length = z.length then some ⟨.put k xs, ans, []⟩ else none
            | some (.val (.ptr b off)) => if bound o k then match h[b]? with
                | some (some B) => if lim ≤ b ∧ off + xs.length ≤ B.cells.length ∧ olds.contains (acc.length, b) = true then some ⟨.old b B.ty (putAt B.cells off xs), ans, []⟩ else none
                | _ => none
              else none
            | _ => none
        else none
      | _, _, _ => none
    else none
  | op => match usedOpnds ans op with
    | some l => if l.all (seen ops acc o) && l.all (underO c t h.length) then
        match evOp c cf h.length t (killed c.L ops olds acc.length h) ans o with
        | some r => if r.v.under h.length then some ⟨.val r.v, r.ans, r.cons⟩ else none
        | none => none
      else none
    | none => none
def evD1 (c : Cfg) (cf : CallF) (lim : Nat) (ops : Array Oper) (h : Heap) (olds : List (Nat × Nat)) (acc : List AItem) (t : List V) (ans : List Ans) (o : Oper) : Option DOut :=
  match o.guard with
  | none => evBody c cf lim ops h olds acc t ans o
  | some (j, want) => if bound o j && ((ops[j]?).any (·.dst.isSome)) then match acc[j]? with
      | some (.val (.raw (.bool b))) => match ans with
        | .br q :: ans' => if q == want then match evBody c cf lim ops h olds acc t ans' o with
              | some r => match r.it with
                | .skip => none
                | it => some ⟨it, r.ans, (b = q) :: r.cons⟩
              | none => none
            else some ⟨.skip, ans', [b = q]⟩
        | _ => none
      | _ => none
    else none
structure DROut where
  its : List AItem
  t : List V
  ans : List Ans
  cons : List Prop
def evDr (c : Cfg) (cf : CallF) (lim : Nat) (ops : Array Oper) (h : Heap) (olds : List (Nat × Nat)) : List AItem → List Oper → List V → List Ans → Option DROut
  | acc, [], t, ans => some ⟨acc, t, ans, []⟩
  | acc, o :: rest, t, ans => match evD1 c cf lim ops h olds acc t ans o with
    | none => none
    | some d => match evDr c cf lim ops h olds (acc ++ [d.it]) rest (putT t o.dst (d.it.slot h.length acc)) d.ans with
      | none => none
      | some r => some { r with cons := d.cons ++ r.cons }
def oldNames : List AItem → List Nat
  | [] => []
  | .old b _ _ :: l => b :: oldNames l
  | _ :: l => oldNames l
def applyOlds : List AItem → Heap → Heap
  | [], h => h
  | .old b T cs :: l, h => applyOlds l (h.set b (some ⟨cs, T⟩))
  | _ :: l, h => applyOlds l h
def putOf (its : List AItem) (k : Nat) : Option (List V) := its.findSome? fun it => match it with
  | .put k' cs => if k' = k then some cs else none
  | _ => none
def newBlks (its : List AItem) : Nat → List AItem → Heap
  | _, [] => []
  | i, .new T z :: l => ((putOf its i).map fun cs => (⟨cs, T⟩ : Blk)) :: newBlks its (i + 1) l
  | i, _ :: l => newBlks its (i + 1) l
def nodupB : List Nat → Bool
  | [] => true
  | x :: l => !l.contains x && nodupB l
def evDrawn (c : Cfg) (cf : CallF) (lim : Nat) (ops : Array Oper) (t : List V) (h : Heap) (ans : List Ans) : Option ROut :=
  match ans with
  | .olds olds :: ans => match evDr c cf lim ops h olds [] ops.toList t ans with
    | some r => if R.shape ops (r.its.map (AItem.to ⟨fun _ => 0, fun _ => undef⟩)) t.length && nodupB (oldNames r.its) then
        some ⟨r.t, applyOlds r.its h ++ newBlks r.its 0 r.its, r.ans, r.cons⟩
      else none
    | none => none
  | _ => none
end Go.Proofs.Yteodlcpcgfjdcaa.E
namespace Go.Proofs.Yteodlcpcgfjdcaa.E
open Go Go.RowKit
theorem concs_map (ρ : Ren) : ∀ l, concs ρ l = l.map (·.conc ρ)
  | [] => rfl
  | x :: l => by simp [concs, concs_map ρ l]
theorem concs_append (ρ : Ren) (l m : List V) : concs ρ (l ++ m) = concs ρ l ++ concs ρ m := by simp [concs_map]
theorem concs_length (ρ : Ren) (l : List V) : (concs ρ l).length = l.length := by simp [concs_map]
theorem concs_set (ρ : Ren) (l : List V) (i : Nat) (v : V) : concs ρ (l.set i v) = (concs ρ l).set i (v.conc ρ) := by simp [concs_map, List.map_set]
theorem concs_get (ρ : Ren) (l : List V) (i : Nat) : (concs ρ l)[i]? = (l[i]?).map (·.conc ρ) := by simp [concs_map]
theorem concs_raw (ρ : Ren) (l : List Value) : concs ρ (l.map .raw) = l := by
  rw [concs_map, List.map_map]
  conv => rhs; rw [← List.map_id l]
  rfl
theorem unders_iff (n : Nat) : ∀ l, unders n l = true ↔ ∀ x ∈ l, x.under n = true
  | [] => by simp [unders]
  | x :: l => by simp [unders, unders_iff n l]
theorem unders_append {n : Nat} {l m : List V} (h : unders n l = true) (k : unders n m = true) : unders n (l ++ m) = true := by
  rw [unders_iff] at *
  intro x hx
  rcases List.mem_append.1 hx with h1 | h1
  · exact h x h1
  · exact k x h1
theorem unders_raw (n : Nat) (l : List Value) : unders n (l.map .raw) = true := by
  rw [unders_iff]
  intro x hx
  obtain ⟨v, _, rfl⟩ := List.mem_map.1 hx
  rfl
theorem unders_sub {n : Nat} {l m : List V} (h : unders n l = true) (hs : ∀ x ∈ m, x ∈ l) : unders n m = true := by
  rw [unders_iff] at *
  exact fun x hx => h x (hs x hx)
mutual
theorem V.conc_agree {ρ ρ' : Ren} {n : Nat} (h : ∀ i, i < n → ρ'.blk i = ρ.blk i) : ∀ x : V, x.under n = true → x.conc ρ' = x.conc ρ
  | .raw v, _ => rfl
  | .any k, h => by simp [V.under] at h
  | .ptr b o, hx => by simp only [V.under, decide_eq_true_eq] at hx; simp only [V.conc, h b hx]
  | .slc b o l c, hx => by simp only [V.under, decide_eq_true_eq] at hx; simp only [V.conc, h b hx]
  | .fn f x y, hx => by
    simp only [V.under, Bool.and_eq_true] at hx
    simp only [V.conc, concs_agree h x hx.1, concs_agree h y hx.2]
  | .agg l, hx => by simp only [V.under] at hx; simp only [V.conc, concs_agree h l hx]
  | .tup l, hx => by simp only [V.under] at hx; simp only [V.conc, concs_agree h l hx]
  | .lit b, _ => rfl
theorem concs_agree {ρ ρ' : Ren} {n : Nat} (h : ∀ i, i < n → ρ'.blk i = ρ.blk i) : ∀ l : List V, unders n l = true → concs ρ' l = concs ρ l
  | [], _ => rfl
  | x :: l, hx => by
    simp only [unders, Bool.and_eq_true] at hx
    simp only [concs, V.conc_agree h x hx.1, concs_agree h l hx.2]
end
mutual
theorem V.under_mono {n m : Nat} (h : n ≤ m) : ∀ x : V, x.under n = true → x.under m = true
  | .raw v, _ => rfl
  | .any k, h => by simp [V.under] at h
  | .ptr b o, hx => by simp only [V.under, decide_eq_true_eq] at *; omega
  | .slc b o l c, hx => by simp only [V.under, decide_eq_true_eq] at *; omega
  | .fn f x y, hx => by
    simp only [V.under, Bool.and_eq_true] at *
    exact ⟨unders_mono h x hx.1, unders_mono h y hx.2⟩
  | .agg l, hx => by simp only [V.under] at *; exact unders_mono h l hx
  | .tup l, hx => by simp only [V.under] at *; exact unders_mono h l hx
  | .lit b, _ => rfl
theorem unders_mono {n m : Nat} (h : n ≤ m) : ∀ l : List V, unders n l = true → unders m l = true
  | [], _ => rfl
  | x :: l, hx => by
    simp only [unders, Bool.and_eq_true] at *
    exact ⟨V.under_mono h x hx.1, unders_mono h l hx.2⟩
end
theorem V.slotOk_mono {n m : Nat} (h : n ≤ m) (x : V) (hx : x.slotOk n = true) : x.slotOk m = true := by
  cases x <;> first | rfl | exact V.under_mono h _ hx
theorem V.slot_agree {ρ ρ' : Ren} {n : Nat} (h : ∀ i, i < n → ρ'.blk i = ρ.blk i) (hu : ρ'.unk = ρ.unk) (x : V) (hx : x.slotOk n = true) : x.conc ρ' = x.conc ρ := by
  cases x with
  | any k => simp only [V.conc, hu]
  | _ => exact V.conc_agree h _ hx
theorem V.slot_of_under {n : Nat} (x : V) (hx : x.under n = true) : x.slotOk n = true := by
  cases x <;> first | rfl | exact hx
theorem raws_concs (ρ : Ren) : ∀ (l : List V) (vs : List Value), raws l = some vs → concs ρ l = vs
  | [], vs, h => by simp only [raws, Option.some.injEq] at h; subst h; rfl
  | .raw v :: l, vs, h => by
    simp only [raws, Option.map_eq_some_iff] at h
    obtain ⟨us, hu, rfl⟩ := h
    simp [concs, V.conc, raws_concs ρ l us hu]
  | .any _ :: l, vs, h => by simp [raws] at h
  | .ptr _ _ :: l, vs, h => by simp [raws] at h
  | .slc _ _ _ _ :: l, vs, h => by simp [raws] at h
  | .fn _ _ _ :: l, vs, h => by simp [raws] at h
  | .agg _ :: l, vs, h => by simp [raws] at h
  | .tup _ :: l, vs, h => by simp [raws] at h
  | .lit _ :: l, vs, h => by simp [raws] at h
theorem mkAgg_conc (ρ : Ren) (l : List V) : (mkAgg l).conc ρ = .agg (concs ρ l).toArray := by
  unfold mkAgg
  split
  · rename_i vs h; rw [raws_concs ρ l vs h]; rfl
  · rfl
theorem mkAgg_under {n : Nat} {l : List V} (h : unders n l = true) : (mkAgg l).under n = true := by
  unfold mkAgg
  split
  · rfl
  · exact h
theorem mkTup_conc (ρ : Ren) (l : List V) : (mkTup l).conc ρ = .tuple (concs ρ l).toArray := by
  unfold mkTup
  split
  · rename_i vs h; rw [raws_concs ρ l vs h]; rfl
  · rfl
theorem mkTup_under {n : Nat} {l : List V} (h : unders n l = true) : (mkTup l).under n = true := by
  unfold mkTup
  split
  · rfl
  · exact h
theorem cellsV_conc (ρ : Ren) {x : V} {xs : List V} (h : cellsV x = some xs) : (x.conc ρ).cells.toList = concs ρ xs := by
  cases x <;> simp only [cellsV, Option.some.injEq, reduceCtorEq] at h <;> subst h
  · rw [concs_raw]; rfl
  all_goals rfl
theorem cellsV_under {n : Nat} {x : V} {xs : List V} (h : cellsV x = some xs) (hx : x.under n = true) : unders n xs = true := by
  cases x <;> simp only [cellsV, Option.some.injEq, reduceCtorEq] at h <;> subst h
  · exact unders_raw n _
  all_goals first | exact hx | (simp only [unders, Bool.and_true]; exact hx)
structure RelH (c : Cfg) (ρ : Ren) (h : Heap) (w : World) : Prop where
  cell : ∀ (i : Nat) (B : Blk), h[i]? = some (some B) → ∃ fr, w.heap[ρ.blk i]? = some (.cells (concs ρ B.cells).toArray B.ty fr) ∧ (c.L ≤ i → fr = (0, 0))
  lt : ∀ i, i < h.length → ρ.blk i < w.heap.size
  inj : ∀ i j, c.L ≤ i → i < h.length → j < h.length → ρ.blk i = ρ.blk j → i = j
  sco : ∀ (i : Nat) (B : Blk), h[i]? = some (some B) → unders h.length B.cells = true
  glob : ∀ p ∈ c.G, ρ.blk p.2 = p.1 ∧ p.2 < h.length
  big : c.L ≤ h.length
  base : ∀ i, i < c.L → h[i]? = c.H0[i]?
structure RelT (ρ : Ren) (n : Nat) (t : List V) (a : Act) : Prop where
  tmps : a.tmps = (concs ρ t).toArray
  sco : ∀ x ∈ t, x.slotOk n = true
structure Fr (lim : Nat) (ρ : Ren) (h : Heap) (w : World) (ρ' : Ren) (h' : Heap) (w' : World) : Prop where
  os : w'.os = w.os
  tape : w'.tape = w.tape
  output : w'.output = w.output
  size : w.heap.size ≤ w'.heap.size
  blk : ∀ k, k < w.heap.size → (∀ i, lim ≤ i → i < h.length → ρ.blk i ≠ k) → w'.heap[k]? = w.heap[k]?
  ren : ∀ i, i < h.length → ρ'.blk i = ρ.blk i
  len : h.length ≤ h'.length
  fresh : ∀ i, h.length ≤ i → i < h'.length → w.heap.size ≤ ρ'.blk i
theorem Fr.refl (lim : Nat) (ρ : Ren) (h : Heap) (w : World) : Fr lim ρ h w ρ h w :=
  ⟨rfl, rfl, rfl, Nat.le_refl _, fun _ _ _ => rfl, fun _ _ => rfl, Nat.le_refl _, fun i h1 h2 => by omega⟩
theorem Fr.trans {lim : Nat} {ρ ρ1 ρ2 : Ren} {h h1 h2 : Heap} {w w1 w2 : World} (a : Fr lim ρ h w ρ1 h1 w1) (b : Fr lim ρ1 h1 w1 ρ2 h2 w2) : Fr lim ρ h w ρ2 h2 w2 := by
  refine ⟨b.os.trans a.os, b.tape.trans a.tape, b.output.trans a.output, Nat.le_trans a.size b.size, fun k hk hn => ?_, fun i hi => ?_, Nat.le_trans a.len b.len, fun i hi hi2 => ?_⟩
  · refine (b.blk k (Nat.lt_of_lt_of_le hk a.size) fun i hi hi2 => ?_).trans (a.blk k hk hn)
    rcases Nat.lt_or_ge i h.length with hlt | hge
    · rw [a.ren i hlt]; exact hn i hi hlt
    · have := a.fresh i hge hi2; omega
  · rw [b.ren i (Nat.lt_of_lt_of_le hi a.len), a.ren i hi]
  · rcases Nat.lt_or_ge i h1.length with hlt | hge
    · rw [b.ren i hlt]; exact a.fresh i hi hlt
    · exact Nat.le_trans a.size (b.fresh i hge hi2)
theorem Fr.mono {lim lim' : Nat} {ρ ρ' : Ren} {h h' : Heap} {w w' : World} (a : Fr lim' ρ h w ρ' h' w') (hl : lim ≤ lim') : Fr lim ρ h w ρ' h' w' :=
  ⟨a.os, a.tape, a.output, a.size, fun k hk hn => a.blk k hk fun i hi hi2 => hn i (by omega) hi2, a.ren, a.len, a.fresh⟩
theorem opnd_under {c : Cfg} {ρ : Ren} {h : Heap} {w : World} {t : List V} {a : Act} (RH : RelH c ρ h w) (RT : RelT ρ h.length t a) {x : Operand} {v : V} (hx : opnd c t x = some v) : v.under h.length = true := by
  cases x with
  | tmp s =>
    simp only [opnd] at hx
    split at hx
    · cases hx
    · simp only [Option.some.injEq] at hx; subst hx; rfl
    · rename_i hna hnl
      have hm := List.mem_of_getElem? hx
      have := RT.sco v hm
      cases v <;> first | exact this | (exfalso; exact hna _ hx)
  | const v => simp only [opnd, Option.some.injEq] at hx; subst hx; rfl
  | func f => simp only [opnd, Option.some.injEq] at hx; subst hx; rfl
  | global g =>
    simp only [opnd] at hx
    split at hx
    · rename_i p hp
      simp only [Option.some.injEq] at hx
      subst hx
      simp only [V.under, decide_eq_true_eq]
      exact (RH.glob p (List.mem_of_find?_eq_some hp)).2
    · cases hx
theorem opnd_eval {c : Cfg} {ρ : Ren} {h : Heap} {w : World} {t : List V} {a : Act} (RH : RelH c ρ h w) (RT : RelT ρ h.length t a) {x : Operand} {v : V} (hx : opnd c t x = some v) : a.eval x = v.conc ρ := by
  cases x with
  | tmp s =>
    simp only [opnd] at hx
    split at hx
    · cases hx
    · rename_i b hb
      simp only [Option.some.injEq] at hx; subst hx
      simp only [Act.eval, RT.tmps]
      simp [concs_get, hb, V.conc]
    · simp only [Act.eval, RT.tmps]
      simp [concs_get, hx]
  | const v => simp only [opnd, Option.some.injEq] at hx; subst hx; rfl
  | func f => simp only [opnd, Option.some.injEq] at hx; subst hx; rfl
  | global g =>
    simp only [opnd] at hx
    split at hx
    · rename_i p hp
      simp only [Option.some.injEq] at hx
      subst hx
      have h1 := List.find?_some hp
      simp only [beq_iff_eq] at h1
      simp only [Act.eval, V.conc, (RH.glob p (List.mem_of_find?_eq_some hp)).1, h1]
    · cases hx
theorem opnds_ok {c : Cfg} {ρ : Ren} {h : Heap} {w : World} {t : List V} {a : Act} (RH : RelH c ρ h w) (RT : RelT ρ h.length t a) : ∀ (l : List Operand) (vs : List V), opnds c t l = some vs → l.map a.eval = concs ρ vs ∧ unders h.length vs = true
  | [], vs, hx => by simp only [opnds, Option.some.injEq] at hx; subst hx; exact ⟨rfl, rfl⟩
  | x :: l, vs, hx => by
    simp only [opnds] at hx
    split at hx
    · rename_i v us hv hu
      simp only [Option.some.injEq] at hx
      subst hx
      obtain ⟨h1, h2⟩ := opnds_ok RH RT l us hu
      simp [concs, unders, h1, h2, opnd_eval RH RT hv, opnd_under RH RT hv]
    · cases hx
theorem rawOf_eval {c : Cfg} {ρ : Ren} {h : Heap} {w : World} {t : List V} {a : Act} (RH : RelH c ρ h w) (RT : RelT ρ h.length t a) {x : Operand} (hx : isRaw c t x = true) : rawOf c t x = a.eval x := by
  unfold isRaw at hx
  split at hx
  · rename_i v hv
    unfold rawOf
    rw [opnd_eval RH RT hv, hv]
    rfl
  · cases hx
def Ren.push (ρ : Ren) (n b : Nat) : Ren := ⟨fun i => if i = n then b else ρ.blk i, ρ.unk⟩
theorem relH_alloc {c : Cfg} {ρ : Ren} {h : Heap} {w : World} (RH : RelH c ρ h w) {xs : List V} {ty : TypeId} (hu : unders h.length xs = true) :
    RelH c (ρ.push h.length w.heap.size) (h ++ [some ⟨xs, ty⟩]) (w.alloc (.cells (concs ρ xs).toArray ty)) := by
  have hag : ∀ i, i < h.length → (ρ.push h.length w.heap.size).blk i = ρ.blk i := fun i hi => by simp only [Ren.push]; rw [if_neg (by omega)]
  have hlen : (h ++ [some (⟨xs, ty⟩ : Blk)]).length = h.length + 1 := by simp
  refine ⟨fun i B hi => ?_, fun i hi => ?_, fun i j h1 h2 h3 h4 => ?_, fun i B hi => ?_, fun p hp => ?_, by rw [hlen]; have := RH.big; omega, fun i hi => by rw [List.getElem?_append_left (by have := RH.big; omega)]; exact RH.base i hi⟩
  · rcases Nat.lt_trichotomy i h.length with hlt | heq | hgt
    · rw [List.getElem?_append_left hlt] at hi
      obtain ⟨fr, h1, h2⟩ := RH.cell i B hi
      refine ⟨fr, ?_, h2⟩
      rw [hag i hlt, Below.heap_alloc _ _ _ (RH.lt i hlt), h1, concs_agree hag _ (RH.sco i B hi)]
    · subst heq
      simp only [List.getElem?_append_right (Nat.le_refl _), Nat.sub_self, List.getElem?_cons_zero, Option.some.injEq] at hi
      subst hi
      refine ⟨(0, 0), ?_, fun _ => rfl⟩
      rw [concs_agree (ρ := ρ) (n := h.length) hag _ hu]
      simp only [Ren.push, if_true]
      exact Array.getElem?_push_size
    · rw [List.getElem?_eq_none (by rw [hlen]; omega)] at hi; cases hi
  · rw [hlen] at hi
    simp only [World.size_alloc]
    rcases Nat.lt_or_ge i h.length with hlt | hge
    · rw [hag i hlt]; have := RH.lt i hlt; omega
    · have : i = h.length := by omega
      subst this
      simp only [Ren.push, if_true]; omega
  · rw [hlen] at h2 h3
    rcases Nat.lt_or_ge i h.length with hi | hi <;> rcases Nat.lt_or_ge j h.length with hj | hj
    · rw [hag i hi, hag j hj] at h4; exact RH.inj i j h1 hi hj h4
    · have ej : j = h.length := by omega
      subst ej
      rw [hag i hi] at h4
      simp only [Ren.push, if_true] at h4
      have := RH.lt i hi; omega
    · have ej : i = h.length := by omega
      subst ej
      rw [hag j hj] at h4
      simp only [Ren.push, if_true] at h4
      have := RH.lt j hj; omega
    · omega
  · rcases Nat.lt_or_ge i h.length with hlt | hge
    · rw [List.getElem?_append_left hlt] at hi
      exact unders_mono (by rw [hlen]; omega) _ (RH.sco i B hi)
    · have e : i = h.length := by
        rcases Nat.lt_or_ge i (h.length + 1) with h1 | h1
        · omega
        · rw [List.getElem?_eq_none (by rw [hlen]; omega)] at hi; cases hi
      subst e
      simp only [List.getElem?_append_right (Nat.le_refl _), Nat.sub_self, List.getElem?_cons_zero, Option.some.injEq] at hi
      subst hi
      exact unders_mono (by rw [hlen]; omega) _ hu
  · obtain ⟨h1, h2⟩ := RH.glob p hp
    exact ⟨by rw [hag _ h2, h1], by rw [hlen]; omega⟩
theorem fr_alloc {lim : Nat} {ρ : Ren} {h : Heap} {w : World} {o : Obj} {B : Option Blk} : Fr lim ρ h w (ρ.push h.length w.heap.size) (h ++ [B]) (w.alloc o) :=
  ⟨rfl, rfl, rfl, by simp, fun k hk _ => Below.heap_alloc _ _ _ hk, fun i hi => by simp only [Ren.push]; rw [if_neg (by omega)], by simp, fun i h1 h2 => by
    simp at h2
    have : i = h.length := by omega
    subst this
    simp [Ren.push]⟩
end Go.Proofs.Yteodlcpcgfjdcaa.E
namespace Go.Proofs.Yteodlcpcgfjdcaa.E
open Go Go.RowKit
theorem eqFlds_sound {P : Program} {eq : TypeId → Value → Value → Option Bool} {go : TypeId → Value → Value → Sem Bool} (hs : ∀ t x y b w, eq t x y = some b → (go t x y).run P w = .ok b w) (xs ys : Array Value) (w : World) :
    ∀ (l : List Field) (b : Bool), eqFlds P eq xs ys l = some b →
      (forIn l ((none, ()) : Option Bool × Unit) fun (f : Field) r => do
        if f.name ≠ "_" then
          if (!(← go f.type (← part f.type xs f.offset) (← part f.type ys f.offset))) = true then pure (ForInStep.done (some false, ())) else pure (ForInStep.yield (none, ()))
        else pure (ForInStep.yield (none, ()))).run P w = .ok (if b then none else some false, ()) w
  | [], b, h => by
    simp only [eqFlds, Option.some.injEq] at h
    subst h
    simp [go_sem]
  | f :: l, b, h => by
    simp only [eqFlds] at h
    split at h
    · rename_i hf
      have := eqFlds_sound hs xs ys w l b h
      rw [List.forIn_cons]
      simp only [hf, ne_eq, not_true_eq_false, if_false, Sem.run_bind, Sem.run_pure, Result.andThen_ok]
      exact this
    · rename_i hf
      split at h
      · rename_i x y hx hy
        split at h
        · rename_i p q hp hq
          simp only [Option.some.injEq] at h
          subst h
          have := eqFlds_sound hs xs ys w l q hq
          rw [List.forIn_cons]
          simp only [ne_eq, hf, not_false_eq_true, if_true, Sem.run_bind, pureRun_run hx, pureRun_run hy, hs _ _ _ _ w hp, Result.andThen_ok]
          cases p with
          | true =>
            simp only [Bool.not_true, Bool.false_eq_true, if_false, Sem.run_pure, Result.andThen_ok, Bool.true_and]
            exact this
          | false => simp only [Bool.not_false, if_true, Sem.run_pure, Result.andThen_ok, Bool.false_and, Bool.false_eq_true, if_false]
        · cases h
      · cases h
theorem eqElems_sound {P : Program} {eq : TypeId → Value → Value → Option Bool} {go : TypeId → Value → Value → Sem Bool} (hs : ∀ t x y b w, eq t x y = some b → (go t x y).run P w = .ok b w) (e : TypeId) (n : Nat) (xs ys : Array Value) (w : World) :
    ∀ (l : List Nat) (b : Bool), eqElems P eq e n xs ys l = some b →
      (forIn l ((none, ()) : Option Bool × Unit) fun (i : Nat) r => do
          if (!(← go e (← part e xs (i * n)) (← part e ys (i * n)))) = true then pure (ForInStep.done (some false, ())) else pure (ForInStep.yield (none, ()))).run P w = .ok (if b then none else some false, ()) w
  | [], b, h => by
    simp only [eqElems, Option.some.injEq] at h
    subst h
    simp [go_sem]
  | f :: l, b, h => by
    simp only [eqElems] at h
    split at h
    · rename_i x y hx hy
      split at h
      · rename_i p q hp hq
        simp only [Option.some.injEq] at h
        subst h
        have := eqElems_sound hs e n xs ys w l q hq
        rw [List.forIn_cons]
        simp only [Sem.run_bind, pureRun_run hx, pureRun_run hy, hs _ _ _ _ w hp, Result.andThen_ok]
        cases p with
        | true =>
          simp only [Bool.not_true, Bool.false_eq_true, if_false, Sem.run_pure, Result.andThen_ok, Bool.true_and]
          exact this
        | false => simp only [Bool.not_false, if_true, Sem.run_pure, Result.andThen_ok, Bool.false_and, Bool.false_eq_true, if_false]
      · cases h
    · cases h
theorem eqIn_sound (P : Program) : ∀ (d m : Nat) (t : TypeId) (x y : Value) (b : Bool) (w : World), eqIn P d t x y = some b → (Op.equalIn (d + m) t x y).run P w = .ok b w
  | 0, m, t, x, y, b, w, h => by simp [eqIn] at h
  | d + 1, m, t, x, y, b, w, h => by
    rw [show d + 1 + m = (d + m) + 1 by omega]
    simp only [eqIn] at h
    split at h
    · rename_i a b' hu
      simp only [Option.some.injEq] at h; subst h
      simp [Op.equalIn, go_sem, pureRun_run hu]
    · rename_i k0 k a k' b' hu
      split at h
      · rename_i hk
        simp only [Option.some.injEq] at h; subst h
        simp [Op.equalIn, go_sem, pureRun_run hu, hk]
      · cases h
    · rename_i fields xs ys hu
      split at h
      · cases h
      · rename_i hst
        have := eqFlds_sound (go := Op.equalIn (d + m)) (fun t x y b w => eqIn_sound P d m t x y b w) xs ys w _ b h
        simp only [Op.equalIn, Sem.run_bind, pureRun_run hu, Result.andThen_ok]
        rw [show (Sem.run P (program : Sem Program) w) = .ok P w from rfl]
        simp only [Result.andThen_ok]
        rw [if_neg (by simpa using hst)]
        rw [← Array.forIn_toList, Sem.run_bind]
        rw [this]
        cases b <;> rfl
    · rename_i len e xs ys hu
      split at h
      · rename_i n hn
        have := eqElems_sound (go := Op.equalIn (d + m)) (fun t x y b w => eqIn_sound P d m t x y b w) e n xs ys w _ b h
        simp only [Op.equalIn, Sem.run_bind, pureRun_run hu, Result.andThen_ok, pureRun_run hn]
        rw [Std.Legacy.Range.forIn_eq_forIn_range']
        simp only [Std.Legacy.Range.size, Nat.sub_zero, Nat.add_sub_cancel, Nat.div_one]
        rw [this]
        cases b <;> rfl
      · cases h
    · cases h
end Go.Proofs.Yteodlcpcgfjdcaa.E
namespace Go.Proofs.Yteodlcpcgfjdcaa.E
open Go Go.RowKit
section
variable {c : Cfg} {ρ : Ren} {h : Heap} {w : World} {t : List V} {a : Act} {lim : Nat}
theorem load_conc (RH : RelH c ρ h w) {ty : TypeId} {b off : Nat} {v : V} (hv : loadV c h ty b off = some v) :
    (loadVar ty ⟨ρ.blk b, off, none⟩).run c.P w = .ok (v.conc ρ) w ∧ v.under h.length = true := by
  unfold loadV at hv
  split at hv
  · rename_i B n hb hag hsz
    split at hv
    · rename_i hle
      simp only [Option.some.injEq] at hv
      subst hv
      obtain ⟨fr, h1, _⟩ := RH.cell b B hb
      have hlen : ((B.cells.drop off).take n).length = n := by simp; omega
      have h2 := run_loadCells_list (P := c.P) w ⟨ρ.blk b, off, none⟩ (concs ρ ((B.cells.drop off).take n)) (fun j u hu => by
        have hj : j < n := by
          rcases Nat.lt_or_ge j n with h | h
          · exact h
          · rw [List.getElem?_eq_none (by rw [concs_length, hlen]; exact h)] at hu; cases hu
        have e : (⟨ρ.blk b, off, none⟩ : Addr).add j = ⟨ρ.blk b, off + j, none⟩ := by
          unfold Addr.add
          split
          · rename_i h0; subst h0; rfl
          · rfl
        rw [e]
        simp only [World.cell?, h1]
        rw [concs_map, List.map_take, List.map_drop, List.getElem?_take, if_pos hj, List.getElem?_drop] at hu
        simpa [concs_map] using hu)
      rw [concs_length, hlen] at h2
      refine ⟨?_, mkAgg_under (unders_sub (RH.sco b B hb) fun x hx => List.mem_of_mem_drop (List.mem_of_mem_take hx))⟩
      rw [mkAgg_conc]
      simp only [loadCells] at h2
      simp [loadVar, go_sem, pureRun_run hag, pureRun_run hsz, h2]
    · cases hv
  · rename_i B hb hag
    obtain ⟨fr, h1, _⟩ := RH.cell b B hb
    refine ⟨?_, (unders_iff _ _).1 (RH.sco b B hb) v (List.mem_of_getElem? hv)⟩
    have hc : w.cell? ⟨ρ.blk b, off, none⟩ = some (v.conc ρ) := by
      simp only [World.cell?, h1]
      simpa [concs_get] using congrArg (Option.map (V.conc ρ)) hv
    simp [loadVar, go_sem, pureRun_run hag, hc]
  · cases hv
theorem oneCells_ok (ρ : Ren) : ∀ l : List V, oneCells l = true → ∀ v ∈ concs ρ l, v.oneCell' = true
  | [], _, v, hv => by cases hv
  | x :: l, h, v, hv => by
    simp only [concs, List.mem_cons] at hv
    cases x with
    | raw u =>
      cases u <;> simp only [oneCells, Bool.false_eq_true] at h <;> (rcases hv with rfl | hv; rfl; exact oneCells_ok ρ l h v hv)
    | any k => simp [oneCells] at h
    | agg m => simp [oneCells] at h
    | tup m => simp [oneCells] at h
    | ptr b o => simp only [oneCells] at h; rcases hv with rfl | hv; rfl; exact oneCells_ok ρ l h v hv
    | slc b o l' c => simp only [oneCells] at h; rcases hv with rfl | hv; rfl; exact oneCells_ok ρ l h v hv
    | fn f y z => simp only [oneCells] at h; rcases hv with rfl | hv; rfl; exact oneCells_ok ρ l h v hv
    | lit b => simp only [oneCells] at h; rcases hv with rfl | hv; rfl; exact oneCells_ok ρ l h v hv
theorem setRow_heap (w : World) (g : Nat) (cs : Array Value) (k : Nat) (hk : k ≠ g) : (w.setRow g cs).heap[k]? = w.heap[k]? := by
  simp only [World.setRow, Array.getElem?_modify]
  rw [if_neg (by omega)]
theorem setRow_this (w : World) (g : Nat) (cs cur : Array Value) (ty : TypeId) (h : w.heap[g]? = some (.cells cur ty (0, 0))) : (w.setRow g cs).heap[g]? = some (.cells cs ty (0, 0)) := by
  simp [World.setRow, Array.getElem?_modify, h]
theorem store_conc (RH : RelH c ρ h w) (hL : c.L ≤ lim) {ty : TypeId} {b off : Nat} {x : V} {h' : Heap} (hs : storeV c lim h ty b off x = some h') :
    ∃ w', (storeVar ty ⟨ρ.blk b, off, none⟩ (x.conc ρ)).run c.P w = .ok () w' ∧ RelH c ρ h' w' ∧ Fr lim ρ h w ρ h' w' := by
  unfold storeV at hs
  split at hs
  · rename_i B xs n hb hx hsz
    split at hs
    · rename_i hh
      obtain ⟨hlim, hn, hle, hone, hun⟩ := hh
      simp only [Option.some.injEq] at hs
      subst hs
      obtain ⟨fr, h1, hfr⟩ := RH.cell b B hb
      have hbl : b < h.length := by
        rcases Nat.lt_or_ge b h.length with h2 | h2
        · exact h2
        · rw [List.getElem?_eq_none h2] at hb; cases hb
      rw [hfr (by omega)] at h1
      have hcs := cellsV_conc ρ hx
      have h2 := run_storeCells_at c.P (ρ.blk b) off ty
      have h3 := run_storeCells_at c.P (ρ.blk b) off B.ty (concs ρ xs) 0 _ w h1 (by simp [concs_length]; omega) (oneCells_ok ρ xs hone)
      have hsize : (x.conc ρ).cells.size = n := by rw [← Array.length_toList, hcs, concs_length, hn]
      have hput : (List.take (off + 0) (concs ρ B.cells).toArray.toList ++ concs ρ xs ++ List.drop (off + 0 + (concs ρ xs).length) (concs ρ B.cells).toArray.toList) = concs ρ (putAt B.cells off xs) := by
        simp [putAt, concs_map, List.map_take, List.map_drop]
      rw [hput] at h3
      refine ⟨w.setRow (ρ.blk b) (concs ρ (putAt B.cells off xs)).toArray, ?_, ?_, ?_⟩
      · unfold storeVar
        generalize (x.conc ρ).cells = cl at hcs hsize ⊢
        simp [go_sem, pureRun_run hsz, hsize, hcs, h3]
      · have hne : ∀ i, i < h.length → i ≠ b → ρ.blk i ≠ ρ.blk b := fun i hi hib he => hib ((RH.inj b i (by omega) hbl hi he.symm).symm)
        refine ⟨fun i C hi => ?_, fun i hi => ?_, fun i j h1 h2 h3 h4 => ?_, fun i C hi => ?_, fun p hp => ?_, by rw [List.length_set]; exact RH.big, fun i hi => by rw [List.getElem?_set_ne (by omega)]; exact RH.base i hi⟩
        · rcases Nat.decEq i b with hne' | rfl
          · rw [List.getElem?_set_ne (Ne.symm hne')] at hi
            have hil : i < h.length := by
              rcases Nat.lt_or_ge i h.length with h2 | h2
              · exact h2
              · rw [List.getElem?_eq_none h2] at hi; cases hi
            obtain ⟨fr', k1, k2⟩ := RH.cell i C hi
            exact ⟨fr', by rw [setRow_heap _ _ _ _ (hne i hil hne')]; exact k1, k2⟩
          · rw [List.getElem?_set_self hbl] at hi
            simp only [Option.some.injEq] at hi
            subst hi
            exact ⟨(0, 0), setRow_this _ _ _ _ _ h1, fun _ => rfl⟩
        · rw [List.length_set] at hi
          have := RH.lt i hi
          simpa [World.setRow] using this
        · rw [List.length_set] at h2 h3
          exact RH.inj i j h1 h2 h3 h4
        · rw [List.length_set]
          rcases Nat.decEq i b with hne' | rfl
          · rw [List.getElem?_set_ne (Ne.symm hne')] at hi
            exact RH.sco i C hi
          · rw [List.getElem?_set_self hbl] at hi
            simp only [Option.some.injEq] at hi
            subst hi
            refine unders_append (unders_append ?_ hun) ?_
            · exact unders_sub (RH.sco i B hb) fun x hx => List.mem_of_mem_take hx
            · exact unders_sub (RH.sco i B hb) fun x hx => List.mem_of_mem_drop hx
        · rw [List.length_set]
          exact RH.glob p hp
      · refine ⟨rfl, rfl, rfl, by simp [World.setRow], fun k hk hn => ?_, fun _ _ => rfl, by simp, fun i h1 h2 => by simp at h2; omega⟩
        exact setRow_heap _ _ _ _ (fun e => hn b hlim hbl e.symm)
    · cases hs
  · cases hs
theorem field_conc {s : TypeId} {f d b off : Nat} (hd : fieldOff c s f = some d) (w : World) :
    (Instr.fieldAt s (.pointer (some ⟨ρ.blk b, off, none⟩)) f).run c.P w = .ok (.pointer (some ⟨ρ.blk b, off + d, none⟩)) w := by
  unfold fieldOff at hd
  split at hd
  · rename_i fields hs
    split at hd
    · rename_i fd hf
      split at hd
      · rename_i n hn
        split at hd
        · cases hd
        · rename_i hn0
          simp only [Option.some.injEq] at hd
          subst hd
          have e : (⟨ρ.blk b, off, none⟩ : Addr).add fd.offset = ⟨ρ.blk b, off + fd.offset, none⟩ := by
            unfold Addr.add
            split
            · rename_i h0; rw [h0]; rfl
            · rfl
          simp [Instr.fieldAt, go_sem, pureRun_run hs, hf, Instr.sureAddr, fieldPlace, pureRun_run hn, hn0, e]
      · cases hd
    · cases hd
  · cases hd
end
end Go.Proofs.Yteodlcpcgfjdcaa.E
namespace Go.Proofs.Yteodlcpcgfjdcaa.E
open Go Go.RowKit
def Callable (P : Program) (f : FuncId) : Prop := ∃ fn, P.funcs[f]? = some fn ∧ (fn.name == "runtime.NumGoroutine") = false ∧ fn.body.isNone = false
def CallOk (c : Cfg) (cf : CallF) : Prop :=
  ∀ f args h lim ans out, cf f args h lim ans = some out → (∀ p ∈ out.cons, p) → c.L ≤ lim → ∀ ρ w, RelH c ρ h w → unders h.length args = true →
    Calls c.P f (concs ρ args).toArray w fun e w' => ∃ ρ', ρ'.unk = ρ.unk ∧ e = .returned (out.v.conc ρ') ∧ RelH c ρ' out.h w' ∧ Fr lim ρ h w ρ' out.h w' ∧ out.v.under out.h.length = true
theorem execOp_congr {f g : Operand → Value} {o : Oper} {l : List Operand} (hl : plainOpnds o.op = some l) (hfg : ∀ x ∈ l, f x = g x) : execOp f o = execOp g o := by
  obtain ⟨dst, op, ty, pos, after, guard⟩ := o
  cases op with
  | binOp b xt x y yt =>
    simp only [plainOpnds, Option.some.injEq] at hl; subst hl
    simp only [execOp, hfg x (by simp), hfg y (by simp)]
  | unOp b xt x =>
    simp only [plainOpnds, Option.some.injEq] at hl; subst hl
    simp only [execOp, hfg x (by simp)]
  | convert b xt x =>
    simp only [plainOpnds, Option.some.injEq] at hl; subst hl
    simp only [execOp, hfg x (by simp)]
  | field b x n =>
    simp only [plainOpnds, Option.some.injEq] at hl; subst hl
    simp only [execOp, hfg x (by simp)]
  | index b x y =>
    simp only [plainOpnds, Option.some.injEq] at hl; subst hl
    simp only [execOp, hfg x (by simp), hfg y (by simp)]
  | extract x n =>
    simp only [plainOpnds, Option.some.injEq] at hl; subst hl
    simp only [execOp, hfg x (by simp)]
  | build b parts =>
    simp only [plainOpnds, Option.some.injEq] at hl; subst hl
    have e : (parts.map fun (i, x) => (i, f x)) = parts.map fun (i, x) => (i, g x) := by
      apply Array.map_congr_left
      rintro ⟨i, x⟩ hx
      simp only [Prod.mk.injEq, true_and]
      exact hfg x (List.mem_map.2 ⟨(i, x), Array.mem_toList_iff.2 hx, rfl⟩)
    simp only [execOp, e]
  | call k =>
    obtain ⟨callee, args, ats⟩ := k
    cases callee with
    | builtin b =>
      simp only [plainOpnds, Option.some.injEq] at hl; subst hl
      have e : args.map f = args.map g := Array.map_congr_left fun x hx => hfg x (Array.mem_toList_iff.2 hx)
      simp only [execOp, resolve, e]
    | value x => simp [plainOpnds] at hl
    | invoke x n => simp [plainOpnds] at hl
  | _ => simp [plainOpnds] at hl
section
variable {c : Cfg} {ρ : Ren} {h : Heap} {w : World} {t : List V} {a : Act} {lim : Nat}
theorem bare_run (RH : RelH c ρ h w) (RT : RelT ρ h.length t a) {o : Oper} {v : V} {cons : List Prop} (hb : bareOp o.op c t = some (v, cons)) (hc : ∀ p ∈ cons, p) :
    (execOp a.eval o).run c.P w = .ok (.value (v.conc ρ)) w ∧ v.under h.length = true := by
  obtain ⟨dst, op, ty, pos, after, guard⟩ := o
  unfold bareOp at hb
  split at hb
  · dsimp only at hb
    split at hb
    · rename_i b xt x y yt
      split at hb
      · rename_i k p k' q hx hy
        have ex := opnd_eval RH RT hx
        have ey := opnd_eval RH RT hy
        simp only [V.conc] at ex ey
        generalize a.eval = g at ex ey ⊢
        split at hb
        · rename_i hk
          subst hk
          split at hb <;> simp only [Option.some.injEq, Prod.mk.injEq, reduceCtorEq] at hb
          all_goals
            obtain ⟨rfl, rfl⟩ := hb
            refine ⟨?_, rfl⟩
          · have h1 : k.wrap (p + q) = p + q := hc _ (List.mem_singleton.2 rfl)
            simp [execOp, go_sem, ex, ey, eqGuard, binOp, Op.intArith, V.conc, h1]
          · have h1 : k.wrap (p - q) = p - q := hc _ (List.mem_singleton.2 rfl)
            simp [execOp, go_sem, ex, ey, eqGuard, binOp, Op.intArith, V.conc, h1]
          · have h1 : k.wrap (p * q) = p * q := hc _ (List.mem_singleton.2 rfl)
            simp [execOp, go_sem, ex, ey, eqGuard, binOp, Op.intArith, V.conc, h1]
          · have h0 : q ≠ 0 := hc _ (List.mem_cons_self)
            have h1 : k.wrap (p.tdiv q) = p.tdiv q := hc _ (List.mem_cons_of_mem _ List.mem_cons_self)
            simp [execOp, go_sem, ex, ey, eqGuard, binOp, Op.intDiv, V.conc, h1, h0]
          · have h0 : q ≠ 0 := hc _ (List.mem_cons_self)
            simp [execOp, go_sem, ex, ey, eqGuard, binOp, Op.intDiv, V.conc, h0]
        · cases hb
      · cases hb
    · rename_i xt x
      split at hb
      · rename_i k p hx
        have ex := opnd_eval RH RT hx
        simp only [V.conc] at ex
        generalize a.eval = g at ex ⊢
        simp only [Option.some.injEq, Prod.mk.injEq] at hb
        obtain ⟨rfl, rfl⟩ := hb
        have h1 : k.wrap (-p) = -p := hc _ (List.mem_singleton.2 rfl)
        refine ⟨?_, rfl⟩
        have h2 : k.wrap (0 - p) = -p := by rw [Int.zero_sub, h1]
        simp [execOp, go_sem, ex, Op.unary, Op.intArith, V.conc, h1]
      · cases hb
    · rename_i src dst x
      split at hb
      · rename_i k0 p hx
        have ex := opnd_eval RH RT hx
        simp only [V.conc] at ex
        generalize a.eval = g at ex ⊢
        split at hb
        · rename_i k1 k hs hd
          simp only [Option.some.injEq, Prod.mk.injEq] at hb
          obtain ⟨rfl, rfl⟩ := hb
          have h1 : k.wrap p = p := hc _ (List.mem_singleton.2 rfl)
          refine ⟨?_, rfl⟩
          simp [execOp, go_sem, ex, convert, pureRun_run hs, pureRun_run hd, Conv.intToInt, V.conc, h1]
        · cases hb
      · cases hb
    · cases hb
  · cases hb
theorem calls_step {f : Operand} {args : Array Operand} {ats : Array TypeId} {dst : Option Tmp} {ty : TypeId} {pos : String} {after : Array Edge} {guard : Option (Nat × Bool)} {g : FuncId} {first cap : List Value} {K : Act → World → Prop} {Q : Exit → Act → World → Prop}
    (hf : a.eval f = .func (.func g) first.toArray cap.toArray) (hg : Callable c.P g) (R : Value → World → Prop)
    (hcall : Calls c.P g (first ++ args.toList.map a.eval ++ cap).toArray w fun e w' => ∃ v, e = .returned v ∧ R v w') (hK : ∀ v w', R v w' → K (a.put dst v) w') :
    (⟨dst, .call ⟨.value f, args, ats⟩, ty, pos, after, guard⟩ : Oper).wp c.P a w K Q := by
  obtain ⟨fn, h1, h2, h3⟩ := hg
  have hrun : (execOp a.eval (⟨dst, .call ⟨.value f, args, ats⟩, ty, pos, after, guard⟩ : Oper)).run c.P w = .ok (.enter g (first ++ args.toList.map a.eval ++ cap).toArray) w := by
    have e : (first.toArray ++ args.map a.eval ++ cap.toArray) = (first ++ args.toList.map a.eval ++ cap).toArray := by
      apply Array.toList_inj.1; simp
    rw [← e]
    clear e
    generalize a.eval = ev at hf ⊢
    have h2' : ¬ fn.name = "runtime.NumGoroutine" := by simpa using h2
    have h3' : ¬ fn.body = none := by intro hn; rw [hn] at h3; cases h3
    simp [execOp, resolve, go_sem, hf, Deferred.ofValue, invoke, callFunc, h1, h2', h3']
  unfold Oper.wp
  rw [hrun]
  refine hcall.mono fun e w' he => ?_
  obtain ⟨v, rfl, hv⟩ := he
  exact hK v w' hv
theorem value_step {o : Oper} {v : Value} {K : Act → World → Prop} {Q : Exit → Act → World → Prop} (hr : (execOp a.eval o).run c.P w = .ok (.value v) w) (hK : K (a.put o.dst v) w) : o.wp c.P a w K Q := by
  unfold Oper.wp
  rw [hr]
  exact hK
theorem eqV_run {dst : Option Tmp} {ty : TypeId} {pos : String} {after : Array Edge} {guard : Option (Nat × Bool)} (RH : RelH c ρ h w) (RT : RelT ρ h.length t a) {b : BinOp} {T U : TypeId} {x y : Operand} {v : V} (hv : eqV c t b T x y = some v) :
    (execOp a.eval ⟨dst, .binOp b T x y U, ty, pos, after, guard⟩).run c.P w = .ok (.value (v.conc ρ)) w ∧ v.under h.length = true := by
  unfold eqV at hv
  split at hv
  · rename_i xs ys hx hy
    split at hv
    · cases hv
    rename_i hgd
    rw [Option.map_eq_some_iff] at hv
    obtain ⟨r, hr, rfl⟩ := hv
    have ex := opnd_eval RH RT hx
    have ey := opnd_eval RH RT hy
    simp only [V.conc] at ex ey
    have hq := eqIn_sound c.P 12 9988 T _ _ r w hr
    refine ⟨?_, rfl⟩
    generalize a.eval = g at ex ey ⊢
    have hG : ∀ q, (q = .eql ∨ q = .neq) → (eqGuard q T x y (Value.agg xs) (Value.agg ys)).run c.P w = .ok () w := fun q hq => by
      rcases hq with rfl | rfl <;> (simp only [eqGuard, Sem.run_bind, Bool.not_true, Bool.false_eq_true, if_false, show ∀ w, (Sem.run c.P (program : Sem Program) w) = .ok c.P w from fun _ => rfl, Result.andThen_ok]; rw [if_pos (by simpa using hgd)]; rfl)
    simp [execOp, go_sem, ex, ey, binOp, Op.equal, Op.maxDepth, hq, hG, V.conc]
  · rename_i xs ys hx hy
    split at hv
    · cases hv
    rename_i hgd
    rw [Option.map_eq_some_iff] at hv
    obtain ⟨r, hr, rfl⟩ := hv
    have ex := opnd_eval RH RT hx
    have ey := opnd_eval RH RT hy
    simp only [V.conc] at ex ey
    have hq := eqIn_sound c.P 12 9988 T _ _ r w hr
    refine ⟨?_, rfl⟩
    generalize a.eval = g at ex ey ⊢
    have hG : ∀ q, (q = .eql ∨ q = .neq) → (eqGuard q T x y (Value.agg xs) (Value.agg ys)).run c.P w = .ok () w := fun q hq => by
      rcases hq with rfl | rfl <;> (simp only [eqGuard, Sem.run_bind, Bool.not_true, Bool.false_eq_true, if_false, show ∀ w, (Sem.run c.P (program : Sem Program) w) = .ok c.P w from fun _ => rfl, Result.andThen_ok]; rw [if_pos (by simpa using hgd)]; rfl)
    simp [execOp, go_sem, ex, ey, binOp, Op.equal, Op.maxDepth, hq, hG, V.conc]
  · cases hv
theorem addr_add (b off n : Nat) : (⟨b, off, none⟩ : Addr).add n = ⟨b, off + n, none⟩ := by
  unfold Addr.add
  split
  · rename_i h0; subst h0; rfl
  · rfl
section
variable {dst : Option Tmp} {ty : TypeId} {pos : String} {after : Array Edge} {guard : Option (Nat × Bool)}
theorem len_run (RH : RelH c ρ h w) (RT : RelT ρ h.length t a) {args : Array Operand} {ats : Array TypeId} {v : V} (hv : lenV c t args ats = some v) :
    (execOp a.eval ⟨dst, .call ⟨.builtin .len, args, ats⟩, ty, pos, after, guard⟩).run c.P w = .ok (.value (v.conc ρ)) w ∧ v.under h.length = true := by
  unfold lenV at hv
  split at hv
  · rename_i x T hargs hT
    split at hv
    · rename_i b off l cp e hx hu
      simp only [Option.some.injEq] at hv
      subst hv
      refine ⟨?_, rfl⟩
      have ex := opnd_eval RH RT hx
      simp only [V.conc] at ex
      have ha : args = #[x] := by apply Array.toList_inj.1; simpa using hargs
      subst ha
      generalize a.eval = g at ex ⊢
      simp [execOp, resolve, go_sem, invoke, builtin, Builtin.len_, hT, ex, pureRun_run hu, V.conc]
    · cases hv
  · cases hv
theorem index_run (RH : RelH c ρ h w) (RT : RelT ρ h.length t a) {T : TypeId} {x ix : Operand} {v : V} {cons : List Prop} (hv : indexV c t T x ix = some (v, cons)) (hc : ∀ p ∈ cons, p) :
    (execOp a.eval ⟨dst, .indexAddr T x ix, ty, pos, after, guard⟩).run c.P w = .ok (.value (v.conc ρ)) w ∧ v.under h.length = true := by
  unfold indexV at hv
  split at hv
  · rename_i b off l cp k i e hx hi hu
    split at hv
    · rename_i n hn
      simp only [Option.some.injEq, Prod.mk.injEq] at hv
      obtain ⟨rfl, rfl⟩ := hv
      obtain ⟨h1, h2⟩ := hc _ (List.mem_singleton.2 rfl)
      refine ⟨?_, (by have := opnd_under RH RT hx; simpa [V.under] using this)⟩
      have ex := opnd_eval RH RT hx
      have ei := opnd_eval RH RT hi
      simp only [V.conc] at ex ei
      generalize a.eval = g at ex ei ⊢
      simp [execOp, Instr.indexAt, asIntOf, go_sem, ex, ei, pureRun_run hu, pureRun_run hn, h1, h2, addr_add, V.conc]
    · cases hv
  · rename_i b off k i l e hx hi hu
    split at hv
    · rename_i n hn
      simp only [Option.some.injEq, Prod.mk.injEq] at hv
      obtain ⟨rfl, rfl⟩ := hv
      obtain ⟨h1, h2⟩ := hc _ (List.mem_singleton.2 rfl)
      refine ⟨?_, (by have := opnd_under RH RT hx; simpa [V.under] using this)⟩
      have ex := opnd_eval RH RT hx
      have ei := opnd_eval RH RT hi
      simp only [V.conc] at ex ei
      generalize a.eval = g at ex ei ⊢
      simp [execOp, Instr.indexAt, asIntOf, Instr.sureAddr, go_sem, ex, ei, pureRun_run hu, pureRun_run hn, h1, h2, addr_add, V.conc]
    · cases hv
  · cases hv
theorem lit_run {P : Program} {g : Operand → Value} (hP : c.P = P) {T : TypeId} {len : Nat} {parts : Array (Nat × Operand)} {e : TypeId} {cells : Array Value} (hl : litCells c T len (parts.map fun (i, x) => (i, g x)).toList = some (e, cells)) :
    (execOp g ⟨dst, .buildSlice T len parts, ty, pos, after, guard⟩).run P w = .ok (.value (.slice (some ⟨w.heap.size, 0, none⟩) len len)) (w.alloc (.cells cells e)) := by
  subst hP
  unfold litCells at hl
  split at hl
  · rename_i e' hu
    split at hl
    · rename_i n z hn hz
      split at hl
      · cases hl
      · rename_i hlen
        rw [not_or] at hlen
        obtain ⟨h1, h2⟩ := hlen
        split at hl
        · rename_i cells' hf
          simp only [Option.some.injEq, Prod.mk.injEq] at hl
          obtain ⟨rfl, rfl⟩ := hl
          simp only [execOp, Instr.buildSlice]
          generalize (parts.map fun (i, x) => (i, g x)) = ps at hf ⊢
          simp [go_sem, pureRun_run hu, pureRun_run hn, h1, h2]
          rw [pureRun_run hz]
          simp only [Result.andThen_ok]
          unfold Value.cells at hf
          simp only [hf]
          simp [go_sem]
        · cases hl
    · cases hl
  · cases hl
end
theorem loadA_ok {c : Cfg} {h : Heap} {ty : TypeId} {b off : Nat} {ans ans' : List Ans} {v : V} {cons : List Prop} (hl : loadA c h ty b off ans = some (v, ans', cons)) (hc : ∀ p ∈ cons, p) : loadV c h ty b off = some v := by
  have base : ((loadV c h ty b off).map fun v => (v, ans, ([] : List Prop))) = some (v, ans', cons) → loadV c h ty b off = some v := fun k => by
    rw [Option.map_eq_some_iff] at k
    obtain ⟨w, hw, k2⟩ := k
    simp only [Prod.mk.injEq] at k2
    obtain ⟨rfl, _, _⟩ := k2
    exact hw
  unfold loadA at hl
  split at hl
  · split at hl
    · split at hl
      · rename_i B hB
        simp only [Option.some.injEq, Prod.mk.injEq] at hl
        obtain ⟨rfl, _, rfl⟩ := hl
        have h1 := hc _ (List.mem_singleton.2 rfl)
        unfold loadBlk at h1
        unfold loadV
        rw [hB]
        split at h1
        · rename_i n hag hsz
          rw [hag, hsz]
          exact h1
        · rename_i hag
          rw [hag]
          exact h1
        · cases h1
      · cases hl
    · exact base hl
  · exact base hl
theorem storeA_ok {c : Cfg} {lim : Nat} {h h' : Heap} {ty : TypeId} {b off : Nat} {x : V} {ans ans' : List Ans} {cons : List Prop} (hl : storeA c lim h ty b off x ans = some (h', ans', cons)) (hc : ∀ p ∈ cons, p) : storeV c lim h ty b off x = some h' := by
  have base : ((storeV c lim h ty b off x).map fun h' => (h', ans, ([] : List Prop))) = some (h', ans', cons) → storeV c lim h ty b off x = some h' := fun k => by
    rw [Option.map_eq_some_iff] at k
    obtain ⟨w, hw, k2⟩ := k
    simp only [Prod.mk.injEq] at k2
    obtain ⟨rfl, _, _⟩ := k2
    exact hw
  unfold storeA at hl
  split at hl
  · split at hl
    · split at hl
      · rename_i B hB
        split at hl
        · rename_i hlim
          simp only [Option.some.injEq, Prod.mk.injEq] at hl
          obtain ⟨rfl, _, rfl⟩ := hl
          have h1 := hc _ (List.mem_singleton.2 rfl)
          unfold storeBlk at h1
          unfold storeV
          rw [hB]
          split at h1
          · rename_i xs n hx hn
            rw [hx, hn]
            split at h1
            · rename_i hh
              simp only [Option.some.injEq] at h1
              subst h1
              dsimp only
              rw [if_pos ⟨hlim, hh.1, hh.2.1, hh.2.2.1, hh.2.2.2⟩]
            · cases h1
          · cases h1
        · cases hl
      · cases hl
    · exact base hl
  · exact base hl
theorem evOp_sound {cf : CallF} (hcf : CallOk c cf) (hfn : ∀ f, c.fns f = true → Callable c.P f) {ans : List Ans} {o : Oper} {out : Out} (he : evOp c cf lim t h ans o = some out) (hc : ∀ p ∈ out.cons, p)
    (RH : RelH c ρ h w) (RT : RelT ρ h.length t a) (hL : c.L ≤ lim) {K : Act → World → Prop} {Q : Exit → Act → World → Prop}
    (hK : ∀ ρ' w', ρ'.unk = ρ.unk → RelH c ρ' out.h w' → Fr lim ρ h w ρ' out.h w' → out.v.under out.h.length = true → K (a.put o.dst (out.v.conc ρ')) w') : o.wp c.P a w K Q := by
  obtain ⟨dst, op, ty, pos, after, guard⟩ := o
  have plain : ∀ {v : V}, out.v = v → out.h = h → v.under h.length = true → (execOp a.eval ⟨dst, op, ty, pos, after, guard⟩).run c.P w = .ok (.value (v.conc ρ)) w → Oper.wp c.P ⟨dst, op, ty, pos, after, guard⟩ a w K Q := fun {v} e1 e2 hu hr => by
    refine value_step hr ?_
    subst e1
    refine hK ρ w rfl ?_ ?_ ?_
    · rw [e2]; exact RH
    · rw [e2]; exact Fr.refl lim ρ h w
    · rw [e2]; exact hu
  have gen : evGen c t h ans ⟨dst, op, ty, pos, after, guard⟩ = some out → Oper.wp c.P ⟨dst, op, ty, pos, after, guard⟩ a w K Q := fun h1 => by
    unfold evGen at h1
    dsimp only at h1
    split at h1
    · rename_i v cons hb
      simp only [Option.some.injEq] at h1
      subst h1
      obtain ⟨hr, hu⟩ := bare_run RH RT (o := ⟨dst, op, ty, pos, after, guard⟩) hb hc
      exact plain rfl rfl hu hr
    · split at h1
      · rename_i l hl
        split at h1
        · rename_i hall
          split at h1
          · rename_i v hp
            simp only [Option.some.injEq] at h1
            subst h1
            have hcong : execOp (rawOf c t) ⟨dst, op, ty, pos, after, guard⟩ = execOp a.eval ⟨dst, op, ty, pos, after, guard⟩ :=
              execOp_congr (o := ⟨dst, op, ty, pos, after, guard⟩) hl fun x hx => rawOf_eval RH RT (List.all_eq_true.1 hall x hx)
            rw [hcong] at hp
            exact plain rfl rfl rfl (pureRun_run hp w)
          · cases h1
        · cases h1
      · cases h1
  cases op with
  | move x =>
    simp only [evOp] at he
    split at he
    · rename_i v hv
      simp only [Option.some.injEq] at he
      subst he
      refine plain rfl rfl (opnd_under RH RT hv) ?_
      rw [← opnd_eval RH RT hv]
      rfl
    · cases he
  | assign x =>
    simp only [evOp] at he
    split at he
    · rename_i v hv
      simp only [Option.some.injEq] at he
      subst he
      refine plain rfl rfl (opnd_under RH RT hv) ?_
      rw [← opnd_eval RH RT hv]
      rfl
    · cases he
  | pick x y z =>
    simp only [evOp] at he
    split at he
    · rename_i b q ans' hx
      split at he
      · rename_i v hv
        simp only [Option.some.injEq] at he
        subst he
        have hbq : b = q := hc _ (List.mem_singleton.2 rfl)
        subst hbq
        have ex := opnd_eval RH RT hx
        simp only [V.conc] at ex
        refine plain rfl rfl (opnd_under RH RT hv) ?_
        have ev := opnd_eval RH RT hv
        rw [← ev]
        generalize a.eval = g at ex ⊢
        cases b <;> simp [execOp, go_sem, ex, asBool]
      · cases he
    · cases he
  | alloc T =>
    simp only [evOp] at he
    split at he
    · rename_i z hz
      simp only [Option.some.injEq] at he
      subst he
      have hr : (execOp a.eval ⟨dst, .alloc T, ty, pos, after, guard⟩).run c.P w = .ok (.value (.pointer (some ⟨w.heap.size, 0, none⟩))) (w.alloc (.cells z.cells T)) := by
        generalize a.eval = g
        have hz' := pureRun_run hz
        simp only [execOp, Instr.alloc, newVar, newRow, newObj]
        generalize zeroValue T = s at hz' ⊢
        simp [go_sem, hz']
        rfl
      unfold Oper.wp
      rw [hr]
      have hA := relH_alloc RH (xs := z.cells.toList.map .raw) (ty := T) (unders_raw _ _)
      rw [concs_raw] at hA
      have := hK (ρ.push h.length w.heap.size) (w.alloc (.cells z.cells T)) rfl hA fr_alloc (by simp [V.under])
      show K (a.put dst (.pointer (some ⟨w.heap.size, 0, none⟩))) (w.alloc (.cells z.cells T))
      simpa [V.conc, Ren.push] using this
    · cases he
  | box T x =>
    simp only [evOp] at he
    split at he
    · rename_i xs hxs
      obtain ⟨v, hv, hcv⟩ := Option.bind_eq_some_iff.1 hxs
      simp only [Option.some.injEq] at he
      subst he
      have ex := opnd_eval RH RT hv
      have hcs := cellsV_conc ρ hcv
      have hr : (execOp a.eval ⟨dst, .box T x, ty, pos, after, guard⟩).run c.P w = .ok (.value (.pointer (some ⟨w.heap.size, 0, none⟩))) (w.alloc (.cells (concs ρ xs).toArray T)) := by
        have e : (concs ρ xs).toArray = (a.eval x).cells := by rw [ex]; apply Array.toList_inj.1; rw [hcs]
        rw [e]
        generalize a.eval = g
        simp only [execOp, Instr.box, newVar, newRow, newObj]
        generalize (g x).cells = q
        simp [go_sem]
        rfl
      unfold Oper.wp
      rw [hr]
      have hA := relH_alloc RH (xs := xs) (ty := T) (cellsV_under hcv (opnd_under RH RT hv))
      have := hK (ρ.push h.length w.heap.size) (w.alloc (.cells (concs ρ xs).toArray T)) rfl hA fr_alloc (by simp [V.under])
      show K (a.put dst (.pointer (some ⟨w.heap.size, 0, none⟩))) (w.alloc (.cells (concs ρ xs).toArray T))
      simpa [V.conc, Ren.push] using this
    · cases he
  | load T x =>
    simp only [evOp] at he
    split at he
    · rename_i b off hx
      split at he
      · rename_i v ans' cons hla
        simp only [Option.some.injEq] at he
        subst he
        have hv := loadA_ok hla hc
        have ex := opnd_eval RH RT hx
        simp only [V.conc] at ex
        obtain ⟨hl, hu⟩ := load_conc RH hv
        refine plain rfl rfl hu ?_
        generalize a.eval = g at ex ⊢
        have e : execOp g ⟨dst, .load T x, ty, pos, after, guard⟩ = (do let q ← loadVar T ⟨ρ.blk b, off, none⟩; pure (Next.value q)) := by simp only [execOp, Instr.loadAt, Instr.sureAddr, ex]; rfl
        rw [e]
        generalize loadVar T ⟨ρ.blk b, off, none⟩ = s at hl ⊢
        simp [go_sem, hl]
      · cases he
    · cases he
  | store T x y =>
    simp only [evOp] at he
    split at he
    · rename_i b off v hx hy
      split at he
      · rename_i h' ans' cons hsa
        simp only [Option.some.injEq] at he
        subst he
        have hs := storeA_ok hsa hc
        have ex := opnd_eval RH RT hx
        have ey := opnd_eval RH RT hy
        simp only [V.conc] at ex
        obtain ⟨w', h1, h2, h3⟩ := store_conc RH hL hs
        have hr : (execOp a.eval ⟨dst, .store T x y, ty, pos, after, guard⟩).run c.P w = .ok .skip w' := by
          rw [← ey] at h1
          generalize a.eval = g at ex h1 ⊢
          have e : execOp g ⟨dst, .store T x y, ty, pos, after, guard⟩ = (do storeVar T ⟨ρ.blk b, off, none⟩ (g y); pure Next.skip) := by simp only [execOp, Instr.storeAt, Instr.sureAddr, ex]; rfl
          rw [e]
          generalize storeVar T ⟨ρ.blk b, off, none⟩ (g y) = s at h1 ⊢
          simp [go_sem, h1]
        unfold Oper.wp
        rw [hr]
        exact hK ρ w' rfl h2 h3 rfl
      · cases he
    · cases he
  | fieldAddr s x f =>
    simp only [evOp] at he
    split at he
    · rename_i b off d hx hd
      simp only [Option.some.injEq] at he
      subst he
      have ex := opnd_eval RH RT hx
      have hu := opnd_under RH RT hx
      simp only [V.conc] at ex
      have hf := field_conc (ρ := ρ) (b := b) (off := off) hd w
      refine plain rfl rfl hu ?_
      generalize a.eval = g at ex ⊢
      simp only [execOp, ex]
      generalize Instr.fieldAt s (.pointer (some ⟨ρ.blk b, off, none⟩)) f = s at hf ⊢
      simp [go_sem]
      rw [hf]; rfl
    · cases he
  | nilCheck x =>
    simp only [evOp] at he
    split at he
    · rename_i b off hx
      simp only [Option.some.injEq] at he
      subst he
      have ex := opnd_eval RH RT hx
      simp only [V.conc] at ex
      refine plain rfl rfl (opnd_under RH RT hx) ?_
      generalize a.eval = g at ex ⊢
      simp [execOp, go_sem, ex, V.conc]
    · rename_i f y z hx
      simp only [Option.some.injEq] at he
      subst he
      have ex := opnd_eval RH RT hx
      simp only [V.conc] at ex
      refine plain rfl rfl (opnd_under RH RT hx) ?_
      generalize a.eval = g at ex ⊢
      simp [execOp, go_sem, ex, V.conc]
    · cases he
  | makeFunc f x y =>
    simp only [evOp] at he
    split at he
    · rename_i xs ys hx hy
      simp only [Option.some.injEq] at he
      subst he
      obtain ⟨e1, u1⟩ := opnds_ok RH RT _ _ hx
      obtain ⟨e2, u2⟩ := opnds_ok RH RT _ _ hy
      refine plain rfl rfl (by simp [V.under, u1, u2]) ?_
      have k1 : x.map a.eval = (concs ρ xs).toArray := by apply Array.toList_inj.1; simpa using e1
      have k2 : y.map a.eval = (concs ρ ys).toArray := by apply Array.toList_inj.1; simpa using e2
      generalize a.eval = g at k1 k2 ⊢
      simp [execOp, go_sem, Instr.makeFunc, V.conc, k1, k2]
    · cases he
  | indexAddr T x ix =>
    simp only [evOp] at he
    split at he
    · rename_i v cons hv
      simp only [Option.some.injEq] at he
      subst he
      obtain ⟨hr, hu⟩ := index_run (dst := dst) (ty := ty) (pos := pos) (after := after) (guard := guard) RH RT hv hc
      exact plain rfl rfl hu hr
    · cases he
  | buildSlice T len parts =>
    simp only [evOp] at he
    split at he
    · rename_i hall
      split at he
      · rename_i e cells hl
        simp only [Option.some.injEq] at he
        subst he
        have hp : parts.toList.map (fun p => (p.1, rawOf c t p.2)) = (parts.map fun (i, x) => (i, a.eval x)).toList := by
          rw [Array.toList_map]
          refine List.map_congr_left fun p hp => ?_
          rw [rawOf_eval RH RT (List.all_eq_true.1 hall p hp)]
        rw [hp] at hl
        have hr := lit_run (P := c.P) (g := a.eval) (w := w) (dst := dst) (ty := ty) (pos := pos) (after := after) (guard := guard) (c := c) rfl hl
        unfold Oper.wp
        rw [hr]
        have hA := relH_alloc RH (xs := cells.toList.map .raw) (ty := e) (unders_raw _ _)
        rw [concs_raw] at hA
        have := hK (ρ.push h.length w.heap.size) (w.alloc (.cells cells e)) rfl hA fr_alloc (by simp [V.under])
        show K (a.put dst (.slice (some ⟨w.heap.size, 0, none⟩) len len)) (w.alloc (.cells cells e))
        simpa [V.conc, Ren.push] using this
      · cases he
    · cases he
  | makeSlice T l cp =>
    simp only [evOp] at he
    split at he
    · rename_i kl n kc m e hl hcp hu
      split at he
      · rename_i i hi
        split at he
        · rename_i z hz
          simp only [Option.some.injEq] at he
          subst he
          obtain ⟨g1, g2, g3, g4⟩ := hc _ (List.mem_singleton.2 rfl)
          have el := opnd_eval RH RT hl
          have ec := opnd_eval RH RT hcp
          simp only [V.conc] at el ec
          have hr : (execOp a.eval ⟨dst, .makeSlice T l cp, ty, pos, after, guard⟩).run c.P w = .ok (.value (.slice (some ⟨w.heap.size, 0, none⟩) n.toNat m.toNat)) (w.alloc (.cells (madeCells z.cells (m.toNat * i.size)) e)) := by
            have h0 := run_make (P := c.P) w T e i z hu hi hz kl kc n m g1 g2 g3 g4
            generalize a.eval = g at el ec ⊢
            simp only [execOp, el, ec]
            generalize Instr.makeSlice T (.int kl n) (.int kc m) = s at h0 ⊢
            simp [go_sem, h0]
          unfold Oper.wp
          rw [hr]
          have hA := relH_alloc RH (xs := (madeCells z.cells (m.toNat * i.size)).toList.map .raw) (ty := e) (unders_raw _ _)
          rw [concs_raw] at hA
          have := hK (ρ.push h.length w.heap.size) (w.alloc (.cells (madeCells z.cells (m.toNat * i.size)) e)) rfl hA fr_alloc (by simp [V.under])
          show K (a.put dst (.slice (some ⟨w.heap.size, 0, none⟩) n.toNat m.toNat)) (w.alloc (.cells (madeCells z.cells (m.toNat * i.size)) e))
          simpa [V.conc, Ren.push] using this
        · cases he
      · cases he
    · cases he
  | call k =>
    obtain ⟨callee, args, ats⟩ := k
    cases callee with
    | value f =>
      simp only [evOp] at he
      split at he
      · rename_i g first cap xs hx hxs
        split at he
        · rename_i hcal
          have ex := opnd_eval RH RT hx
          have hu := opnd_under RH RT hx
          simp only [V.conc] at ex
          simp only [V.under, Bool.and_eq_true] at hu
          obtain ⟨e1, u1⟩ := opnds_ok RH RT _ _ hxs
          have hcall := hcf _ _ _ _ _ _ he hc hL ρ w RH (unders_append (unders_append hu.1 u1) hu.2)
          refine calls_step ex (hfn g hcal) (fun v w' => ∃ ρ', ρ'.unk = ρ.unk ∧ v = out.v.conc ρ' ∧ RelH c ρ' out.h w' ∧ Fr lim ρ h w ρ' out.h w' ∧ out.v.under out.h.length = true) ?_ ?_
          · rw [e1, ← concs_append, ← concs_append]
            refine hcall.mono fun e w' he' => ?_
            obtain ⟨ρ', k1, k2, k3⟩ := he'
            exact ⟨_, k2, ρ', k1, rfl, k3⟩
          · rintro v w' ⟨ρ', k1, rfl, k3, k4, k5⟩
            exact hK ρ' w' k1 k3 k4 k5
        · cases he
      · cases he
    | invoke x n => exact gen he
    | builtin b =>
      cases b with
      | len =>
        simp only [evOp] at he
        split at he
        · rename_i v hv
          simp only [Option.some.injEq] at he
          subst he
          obtain ⟨hr, hu⟩ := len_run (dst := dst) (ty := ty) (pos := pos) (after := after) (guard := guard) RH RT hv
          exact plain rfl rfl hu hr
        · exact gen he
      | _ => exact gen he
  | binOp b T x y U =>
    simp only [evOp] at he
    split at he
    · rename_i v hv
      simp only [Option.some.injEq] at he
      subst he
      obtain ⟨hr, hu⟩ := eqV_run (dst := dst) (ty := ty) (pos := pos) (after := after) (guard := guard) (U := U) RH RT hv
      exact plain rfl rfl hu hr
    · exact gen he
  | _ => exact gen he
end
end Go.Proofs.Yteodlcpcgfjdcaa.E
end
