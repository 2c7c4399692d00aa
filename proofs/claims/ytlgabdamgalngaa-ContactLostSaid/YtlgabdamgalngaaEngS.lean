/-
  The reckoner for this seat's program, where nothing is laid.
-/
import Derived.Test.YtlgabdamgalngaaEngE
import Derived.Test.YtlgabdamgalngaaRows
set_option linter.unusedVariables false
set_option linter.unusedSimpArgs false
namespace Go.Proofs.Ytlgabdamgalngaa
open Go Go.RowKit Go.Proofs.Ytlgabdamgalngaa.E

noncomputable def cfg : Cfg := ⟨Try.prog, [], 0, [], true, fun f => (Try.prog.funcs[f]?).any fun fn => !fn.body.isNone⟩
theorem cfg_mixed : cfg.P.follows .mixedOrders = true := by kernel_rfl
theorem funcs_plain : ((Try.prog.funcs.toList.all fun fn => !(fn.name == "runtime.NumGoroutine"))) = true := by kernel_rfl
set_option maxRecDepth 100000 in
theorem cfg_call : ∀ f, cfg.fns f = true → Callable cfg.P f := fun f hf => by
  cases hg : Try.prog.funcs[f]? with
  | none =>
    have hf' : ((Try.prog.funcs[f]?).any fun fn => !fn.body.isNone) = true := hf
    rw [hg] at hf'
    cases hf'
  | some fn =>
    have hf' : ((Try.prog.funcs[f]?).any fun fn => !fn.body.isNone) = true := hf
    rw [hg] at hf'
    have h := List.all_eq_true.1 funcs_plain fn (Array.mem_toList_iff.2 (Array.mem_of_getElem? hg))
    exact ⟨fn, hg, by simpa using h, by simpa using hf'⟩
theorem cfg_base : cfg.H0.length = cfg.L ∧ (∀ (i : Nat) (B : Blk), cfg.H0[i]? = some (some B) → unders cfg.L B.cells = true) ∧ ∀ p ∈ cfg.G, p.2 < cfg.L :=
  ⟨rfl, fun i B h => by simp [cfg] at h, fun p h => by simp [cfg] at h⟩
/-- The same, but sums go round. -/
noncomputable def cfgW : Cfg := ⟨Try.prog, [], 0, [], false, fun f => (Try.prog.funcs[f]?).any fun fn => !fn.body.isNone⟩
theorem cfgW_mixed : cfgW.P.follows .mixedOrders = true := cfg_mixed
theorem cfgW_call : ∀ f, cfgW.fns f = true → Callable cfgW.P f := cfg_call
theorem cfgW_base : cfgW.H0.length = cfgW.L ∧ (∀ (i : Nat) (B : Blk), cfgW.H0[i]? = some (some B) → unders cfgW.L B.cells = true) ∧ ∀ p ∈ cfgW.G, p.2 < cfgW.L :=
  ⟨rfl, fun i B h => by simp [cfgW] at h, fun p h => by simp [cfgW] at h⟩
theorem relH_cfg {ρ : Ren} {h : Heap} {w : World} : RelH cfg ρ h w ↔ RelH cfgW ρ h w :=
  ⟨fun r => ⟨r.cell, r.lt, r.inj, r.sco, r.glob, r.big, r.base⟩, fun r => ⟨r.cell, r.lt, r.inj, r.sco, r.glob, r.big, r.base⟩⟩
theorem ret_round {f : FuncId} {args : List V} {v : V} (h : Ret cfgW f args v) : Ret cfg f args v := fun H lim hL ρ w R hu =>
  (h H lim hL ρ w (relH_cfg.1 R) hu).mono fun e w' ⟨ρ', h1, h2, h3, h4, h5⟩ => ⟨ρ', h1, h2, relH_cfg.2 h3, h4, h5⟩
theorem ret_bare {f : FuncId} {args : List V} {v : V} (h : Ret cfg f args v) : Ret cfgW f args v := fun H lim hL ρ w R hu =>
  (h H lim hL ρ w (relH_cfg.2 R) hu).mono fun e w' ⟨ρ', h1, h2, h3, h4, h5⟩ => ⟨ρ', h1, h2, relH_cfg.1 h3, h4, h5⟩
end Go.Proofs.Ytlgabdamgalngaa
