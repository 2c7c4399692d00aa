/-
  Part of a claim: the reckoner and contracts.
-/
import Derived.Test.YtcibaankajfhlaaZfb
set_option linter.unusedVariables false
set_option linter.unusedSimpArgs false
set_option maxRecDepth 100000
section
namespace Go.Proofs.Ytcibaankajfhlaa.E2
open Go Go.RowKit
mutual
theorem V.mv_underN {τ : Nat → Nat} {nl : Nat → Bool} {n m : Nat} (h : ∀ b, b < n → nl b = false → τ b < m) : ∀ x : V, x.under n = true → x.nilOk nl = true → (x.mv τ nl).under m = true
  | .raw v, _, _ => rfl
  | .any k, h, _ => by simp [V.under] at h
  | .ptr b o, hx, hn => by
    simp only [V.under, V.mv, V.nilOk, decide_eq_true_eq, Bool.not_eq_true'] at *
    exact h b hx hn
  | .slo b l, hx, hn => by
    simp only [V.under, decide_eq_true_eq] at hx
    unfold V.mv
    cases hq : nl b with
    | true => rfl
    | false => simp only [V.under, decide_eq_true_eq]; exact h b hx hq
  | .sub b o l k, hx, hn => by
    simp only [V.under, decide_eq_true_eq] at hx
    unfold V.mv
    cases hq : nl b with
    | true => rfl
    | false => simp only [V.under, decide_eq_true_eq]; exact h b hx hq
  | .yld b, hx, hn => by
    simp only [V.under, V.mv, V.nilOk, decide_eq_true_eq, Bool.not_eq_true'] at *
    exact h b hx hn
  | .mp b, hx, hn => by
    simp only [V.under, V.mv, V.nilOk, decide_eq_true_eq, Bool.not_eq_true'] at *
    exact h b hx hn
  | .fn f x y, hx, hn => by
    simp only [V.under, V.mv, V.nilOk, Bool.and_eq_true] at *
    exact ⟨mvs_underN h x hx.1 hn.1, mvs_underN h y hx.2 hn.2⟩
  | .agg l, hx, hn => by simp only [V.under, V.mv, V.nilOk] at *; exact mvs_underN h l hx hn
  | .tup l, hx, hn => by simp only [V.under, V.mv, V.nilOk] at *; exact mvs_underN h l hx hn
  | .lit b, _, _ => rfl
theorem mvs_underN {τ : Nat → Nat} {nl : Nat → Bool} {n m : Nat} (h : ∀ b, b < n → nl b = false → τ b < m) : ∀ l : List V, unders n l = true → nilOks nl l = true → unders m (mvs τ nl l) = true
  | [], _, _ => rfl
  | x :: l, hx, hn => by
    simp only [unders, mvs, nilOks, Bool.and_eq_true] at *
    exact ⟨V.mv_underN h x hx.1 hn.1, mvs_underN h l hx.2 hn.2⟩
end
def nilLoc : Loc := ⟨0, [], [], 0, true⟩
def SeenAt (μ : Nat → Nat) (nl : Nat → Bool) (h : Heap) : Nat → Heap → Prop
  | _, [] => True
  | i, X :: H => (∃ cs T, X = some (.cells cs T .ro) ∧ cs.all isRawV = true ∧ ((nl i = false ∧ ∃ o, h[μ i]? = some (some (.cells cs T o))) ∨ (nl i = true ∧ cs = []))) ∧ SeenAt μ nl h (i + 1) H
theorem SeenAt.get {μ : Nat → Nat} {nl : Nat → Bool} {h : Heap} : ∀ {H : Heap} {i0 : Nat}, SeenAt μ nl h i0 H → ∀ (i : Nat) (B : Blk), H[i]? = some (some B) → ∃ cs T, B = .cells cs T .ro ∧ cs.all isRawV = true ∧ ((nl (i0 + i) = false ∧ ∃ o, h[μ (i0 + i)]? = some (some (.cells cs T o))) ∨ (nl (i0 + i) = true ∧ cs = []))
  | [], i0, _, i, B, hB => by simp at hB
  | X :: H, i0, hs, i, B, hB => by
    obtain ⟨⟨cs, T, rfl, h2, h3⟩, hr⟩ := hs
    match i with
    | 0 =>
      simp only [List.getElem?_cons_zero, Option.some.injEq] at hB
      subst hB
      exact ⟨cs, T, rfl, h2, h3⟩
    | i + 1 =>
      simp only [List.getElem?_cons_succ] at hB
      have := SeenAt.get hr i B hB
      rwa [show i0 + 1 + i = i0 + (i + 1) by omega] at this
theorem below_ro {c : Cfg} {lim0 lim : Nat} (hL : c.L = 0) (hG : c.G = []) {f : FuncId} {args : List V} {H N h : Heap} {v : V} (μ : Nat → Nat) (nl : Nat → Bool)
    (hm : Meets c lim0 f args H v (H ++ N)) (hs : SeenAt μ nl h 0 H) (hnl : ∀ i, H.length ≤ i → nl i = false) (hua : unders H.length args = true) (hna : nilOks nl args = true) (hnv : v.nilOk nl = true)
    (hnew : ∀ (k : Nat) (X : Blk), N[k]? = some (some X) → X.wr = true ∧ ∃ cs ty own, X = .cells cs ty own ∧ cs.all isRawV = true) (hlim : lim ≤ h.length) :
    Meets c lim f (mvs μ nl args) h (v.mv (fun k => if k < H.length then μ k else h.length + (k - H.length)) nl) (h ++ N) := by
  intro ρ w RH hu
  have hin : ∀ (i : Nat) (B : Blk), H[i]? = some (some B) → ∃ cs T, B = .cells cs T .ro ∧ cs.all isRawV = true ∧ ((nl i = false ∧ ∃ o, h[μ i]? = some (some (.cells cs T o))) ∨ (nl i = true ∧ cs = [])) := fun i B hB => by
    have := SeenAt.get hs i B hB
    rwa [Nat.zero_add] at this
  have hall : ∀ i, i < H.length → ∃ B, H[i]? = some (some B) := fun i hi => by
    have key : ∀ {H : Heap} {i0 : Nat}, SeenAt μ nl h i0 H → ∀ i, i < H.length → ∃ B, H[i]? = some (some B) := by
      intro H
      induction H with
      | nil => intro i0 _ i hi; simp at hi
      | cons X H ih =>
        intro i0 hs i hi
        obtain ⟨⟨cs, T, rfl, _, _⟩, hr⟩ := hs
        match i with
        | 0 => exact ⟨_, rfl⟩
        | i + 1 => simpa using ih hr i (by simpa using hi)
    exact key hs i hi
  generalize hρ0 : (⟨fun i => if nl i = true then nilLoc else ρ.blk (μ i), ρ.unk⟩ : Ren) = ρ0
  have b0n : ∀ i, nl i = true → ρ0.blk i = nilLoc := fun i hi => by rw [← hρ0]; simp [hi]
  have b0y : ∀ i, nl i = false → ρ0.blk i = ρ.blk (μ i) := fun i hi => by rw [← hρ0]; simp [hi]
  have Mv : Moved μ nl ρ ρ0 := fun i => ⟨fun e => by rw [b0n i e]; rfl, fun e => b0y i e⟩
  have nolw : ∀ i, ¬ lw ρ0 H i := fun i ⟨B, a1, a2, _⟩ => by
    obtain ⟨cs, T, rfl, _⟩ := hin i B a1
    cases a2
  have RH0 : RelH c ρ0 H w := by
    refine ⟨fun i B hB => ?_, fun i j hi hj he => absurd hi (nolw i), fun i B hB => ?_, fun p hp => (by rw [hG] at hp; cases hp), by omega, fun i hi => by omega⟩
    · obtain ⟨cs, T, rfl, hr, ⟨h1, o, h2⟩ | ⟨h1, rfl⟩⟩ := hin i B hB
      · rw [b0y i h1]
        have k := RH.cell _ _ h2
        refine ⟨k.nil, fun hn => ?_, fun sz hq => (by cases hq)⟩
        obtain ⟨fr, q1, _⟩ := k.row hn
        refine ⟨fr, ?_, fun hq => absurd rfl hq⟩
        rw [q1, concs_map, concs_map]
        congr 2
        congr 1
        congr 1
        exact List.map_congr_left fun x hx => by
          have := List.all_eq_true.1 hr x hx
          cases x <;> first | rfl | cases this
      · rw [b0n i h1]
        exact ⟨fun _ => rfl, fun hn => (by cases hn), fun sz hq => (by cases hq)⟩
    · obtain ⟨cs, T, rfl, hr, _⟩ := hin i B hB
      exact unders_raws _ _ hr
  have hargs : concs ρ (mvs μ nl args) = concs ρ0 args := (mvs_conc Mv (by rw [← hρ0]) args hna).symm
  rw [hargs]
  refine (hm _ w RH0 hua).mono fun e w' ⟨ρ1, k1, k2, RH1, F1, k5⟩ => ?_
  generalize hν : (fun i => if i < H.length then μ i else h.length + (i - H.length)) = ν
  have nlow : ∀ i, i < H.length → ν i = μ i := fun i hi => by rw [← hν]; simp [hi]
  have nhigh : ∀ i, H.length ≤ i → ν i = h.length + (i - H.length) := fun i hi => by rw [← hν]; simp; omega
  generalize hρ' : (⟨fun k => if k < h.length then ρ.blk k else ρ1.blk (H.length + (k - h.length)), ρ.unk⟩ : Ren) = ρ'
  have rlow : ∀ k, k < h.length → ρ'.blk k = ρ.blk k := fun k hk => by rw [← hρ']; simp [hk]
  have rhigh : ∀ k, h.length ≤ k → ρ'.blk k = ρ1.blk (H.length + (k - h.length)) := fun k hk => by rw [← hρ']; simp; omega
  have mlt : ∀ i, i < H.length → nl i = false → μ i < h.length := fun i hi hq => by
    obtain ⟨B, hB⟩ := hall i hi
    obtain ⟨cs, T, rfl, _, ⟨_, o, h2⟩ | ⟨h1, _⟩⟩ := hin i B hB
    · exact lt_len h2
    · rw [hq] at h1; cases h1
  have Mv' : Moved ν nl ρ' ρ1 := fun i => by
    rcases Nat.lt_or_ge i H.length with hi | hi
    · refine ⟨fun e => ?_, fun e => ?_⟩
      · rw [F1.ren i hi, b0n i e]; rfl
      · rw [nlow i hi, rlow _ (mlt i hi e), F1.ren i hi, b0y i e]
    · refine ⟨fun e => ?_, fun e => ?_⟩
      · rw [hnl i hi] at e; cases e
      · rw [nhigh i hi, rhigh _ (by omega)]
        congr 1
        omega
  have same : ∀ k, k < w.heap.size → w'.heap[k]? = w.heap[k]? := fun k hk => F1.blk k hk fun i _ hi => absurd hi (nolw i)
  have newB : ∀ (j : Nat) (B : Blk), N[j]? = some (some B) → (H ++ N)[H.length + j]? = some (some B) := fun j B hB => by
    rw [List.getElem?_append_right (by omega), Nat.add_sub_cancel_left]; exact hB
  have frs : ∀ (j : Nat) (B : Blk), N[j]? = some (some B) → (ρ1.blk (H.length + j)).nil = false → w.heap.size ≤ (ρ1.blk (H.length + j)).n := fun j B hB hn => by
    rcases F1.fresh (H.length + j) (by omega) ⟨B, newB j B hB, (hnew j B hB).1, hn⟩ with q | ⟨q, _, q2, _⟩
    · exact q
    · exact absurd q2 (nolw q)
  have split : ∀ (k : Nat) (B : Blk), (h ++ N)[k]? = some (some B) → (k < h.length ∧ h[k]? = some (some B)) ∨ (h.length ≤ k ∧ N[k - h.length]? = some (some B)) := fun k B hB => by
    rcases Nat.lt_or_ge k h.length with q | q
    · rw [List.getElem?_append_left q] at hB; exact .inl ⟨q, hB⟩
    · rw [List.getElem?_append_right q] at hB; exact .inr ⟨q, hB⟩
  have rawU : ∀ (j : Nat) (B : Blk) (n : Nat), N[j]? = some (some B) → B.under n = true := fun j B n hB => by
    obtain ⟨_, cs, ty, own, rfl, hr⟩ := hnew j B hB
    exact unders_raws _ _ hr
  have hlen : (h ++ N).length = h.length + N.length := by simp
  refine ⟨ρ', by rw [← hρ'], by rw [k2, V.mv_conc (ρ := ρ') (ρ' := ρ1) Mv' (by rw [k1, ← hρ', ← hρ0]) v hnv], ⟨fun k B hB => ?_, fun x y hx hy he => ?_, fun k B hB => ?_, fun p hp => (by rw [hG] at hp; cases hp), by omega, fun i hi => by omega⟩, ⟨F1.os, F1.tape, F1.output, F1.size, fun k hk _ => same k hk, rlow, by omega, fun k hk hlwk => ?_, fun k hk hlwk => ?_⟩, ?_⟩
  · rcases split k B hB with ⟨q, h1⟩ | ⟨q, h1⟩
    · rw [rlow k q]
      exact (RH.cell k B h1).move (RH.sco k B h1) rlow fun hn => same _ (RH.lt ⟨B, h1, hn⟩)
    · rw [rhigh k q]
      have k1' := RH1.cell _ B (newB _ B h1)
      obtain ⟨_, cs, ty, own, rfl, hr⟩ := hnew _ B h1
      refine ⟨k1'.nil, fun hn => ?_, k1'.room⟩
      obtain ⟨fr, q1, q2⟩ := k1'.row hn
      refine ⟨fr, ?_, q2⟩
      rw [q1, concs_map, concs_map]
      congr 2
      congr 1
      congr 1
      exact List.map_congr_left fun x hx => by
        have := List.all_eq_true.1 hr x hx
        cases x <;> first | rfl | cases this
  · obtain ⟨B, x1, x2, x3⟩ := hx
    obtain ⟨C, y1, y3⟩ := hy
    rcases split x B x1 with ⟨q, h1⟩ | ⟨q, h1⟩ <;> rcases split y C y1 with ⟨p, g1⟩ | ⟨p, g1⟩
    · rw [rlow x q, rlow y p] at he
      rw [rlow x q] at x3
      rw [rlow y p] at y3
      exact RH.inj x y ⟨B, h1, x2, x3⟩ ⟨C, g1, y3⟩ he
    · exfalso
      rw [rlow x q, rhigh y p] at he
      rw [rlow x q] at x3
      rw [rhigh y p] at y3
      have a := RH.lt ⟨B, h1, x3⟩
      have b := frs _ C g1 y3
      omega
    · exfalso
      rw [rhigh x q, rlow y p] at he
      rw [rhigh x q] at x3
      rw [rlow y p] at y3
      have a := RH.lt ⟨C, g1, y3⟩
      have b := frs _ B h1 x3
      omega
    · rw [rhigh x q, rhigh y p] at he
      rw [rhigh x q] at x3
      rw [rhigh y p] at y3
      have := RH1.inj _ _ ⟨B, newB _ B h1, x2, x3⟩ ⟨C, newB _ C g1, y3⟩ he
      omega
  · rcases split k B hB with ⟨q, h1⟩ | ⟨q, h1⟩
    · exact Blk.under_mono (by omega) B (RH.sco k B h1)
    · exact rawU _ B _ h1
  · obtain ⟨B, x1, x2, x3⟩ := hlwk
    rcases split k B x1 with ⟨q, h1⟩ | ⟨q, h1⟩
    · omega
    · rw [rhigh k q] at x3 ⊢
      exact .inl (frs _ B h1 x3)
  · obtain ⟨B, x1, x2, x3⟩ := hlwk
    rcases split k B x1 with ⟨q, h1⟩ | ⟨q, h1⟩
    · rw [rlow k q] at x3
      exact ⟨B, h1, x2, x3⟩
    · omega
  · have hHN : (H ++ N).length = H.length + N.length := by simp
    rw [hHN] at k5
    rw [hlen]
    refine V.mv_underN (fun b hb hq => ?_) v k5 hnv
    rcases Nat.lt_or_ge b H.length with q | q
    · rw [nlow b q]
      have := mlt b q hq
      omega
    · rw [nhigh b q]
      omega
end Go.Proofs.Ytcibaankajfhlaa.E2
end
section
namespace Go.Proofs
open Go.Shelf
def Try.lays122_ren : Go.Shelf.Ren := ⟨fun | 122 => 103 | 215 => 121 | n => n, fun | 3 => 3 | 4 => 4 | n => n, fun | n => n⟩
theorem Try.lays122 : Go.Proofs.Lays.n122 Try.prog Try.lays122_ren := {
  mixed := by kernel_rfl
  f122 := Try.func103.trans (congrArg some (by kernel_rfl))
  f215 := Try.func121.trans (congrArg some (by kernel_rfl))
  t3 := Try.underlying3
  a3 := Try.isAgg3
  z3 := Try.sizeOf3
  v3 := Try.zeroValue3
  t4 := Try.underlying4
  a4 := Try.isAgg4
  z4 := Try.sizeOf4
  v4 := Try.zeroValue4 }
open Go.RowKit in
theorem Try.cmp_Compare_int (x y : Int) (w : World) :
    Calls Try.prog 103 #[.int .i64 x, .int .i64 y] w fun e w' => e = .returned (.int .i64 (Lib.compareInt x y)) ∧ w' = w := Any.cmp_Compare_int Try.lays122 x y w
def Try.laysNm223_ren : Go.Shelf.Ren := ⟨fun | 23 => 93 | n => n, fun | 22 => 22 | 3 => 3 | 4 => 4 | 0 => 0 | n => n, fun | n => n⟩
theorem Try.laysNm223 : Go.Proofs.Lays2.n23 Try.prog Try.laysNm223_ren := {
  mixed := by kernel_rfl
  f23 := Try.func93.trans (congrArg some (by kernel_rfl))
  t0 := Try.underlying0
  a0 := Try.isAgg0
  z0 := Try.sizeOf0
  v0 := Try.zeroValue0
  t3 := Try.underlying3
  a3 := Try.isAgg3
  z3 := Try.sizeOf3
  v3 := Try.zeroValue3
  t4 := Try.underlying4
  a4 := Try.isAgg4
  z4 := Try.sizeOf4
  v4 := Try.zeroValue4
  t22 := Try.underlying22
  a22 := Try.isAgg22
  z22 := Try.sizeOf22
  v22 := Try.zeroValue22
  i3 := by kernel_rfl }
open Go.RowKit Go.Lib Go.Sort in
theorem Try.slices_Delete_int (blk off cap i j : Nat) (zs : List Int) (w : World) (hH : Holds (Value.int .i64) w blk off zs.toArray) (hcap : zs.length ≤ cap) (hm : cap ≤ 9223372036854775807) (hij : i ≤ j) (hj : j ≤ zs.length) :
    Calls Try.prog 93 #[.slice (some ⟨blk, off, none⟩) zs.length cap, .int .i64 i, .int .i64 j] w fun e w' => e = .returned (.slice (some ⟨blk, off, none⟩) (zs.length - (j - i)) cap) ∧ ∃ q, w' = putRow (Value.int .i64) (Sort.ahead w q) blk off (zs.take i ++ zs.drop j ++ List.replicate (j - i) 0).toArray := Any.slices_Delete_int Try.laysNm223 blk off cap i j zs w hH hcap hm hij hj
end Go.Proofs
end
section
set_option maxRecDepth 100000
namespace Go.Proofs.Ytcibaankajfhlaa
open Go Go.RowKit Go.Sort Go.Proofs.Ytcibaankajfhlaa.E2
theorem meetx_conc {lim : Nat} {f : FuncId} {args : List V} {h h' : Heap} {v : V} (hm : Meets cfxC lim f args h v h') : Meets cfx lim f args h v h' := fun ρ w R hu =>
  (hm ρ w (relH_cfxC.1 R) hu).mono fun e w' ⟨ρ', h1, h2, h3, h4, h5⟩ => ⟨ρ', h1, h2, relH_cfxC.2 h3, h4, h5⟩
theorem ret_cmp (x y : Int) : Ret cfxC 103 [.raw (.int .i64 x), .raw (.int .i64 y)] (.raw (.int .i64 (Lib.compareInt x y))) :=
  fn_of_calls (c := cfxC) (args := [.int .i64 x, .int .i64 y]) fun w => (Try.cmp_Compare_int x y w).mono fun e w' ⟨h1, h2⟩ => ⟨h1, by subst h2; exact ⟨rfl, rfl, rfl, Nat.le_refl _, fun _ _ => rfl⟩⟩
theorem concs_ints (ρ : Ren) (zs : List Int) : concs ρ (ints zs) = zs.map (Value.int .i64) := by simp [ints, concs_map, V.conc, Function.comp_def]
theorem put_heap {w : World} {B : Nat} {cur : Array Value} {T : TypeId} {fr : Nat × Nat} {d : Array Int} {q : Nat} (h : w.heap[B]? = some (.cells cur T fr)) :
    (putRow (Value.int .i64) (Sort.ahead w q) B 0 d).heap[B]? = some (.cells (putCells (Value.int .i64) 0 d cur) T fr) := by
  simp [putRow, mapBlock, Sort.ahead, onCells, Array.getElem?_modify, h]
theorem put_other {w : World} {B k : Nat} {d : Array Int} {q : Nat} (h : k ≠ B) : (putRow (Value.int .i64) (Sort.ahead w q) B 0 d).heap[k]? = w.heap[k]? := by
  simp [putRow, mapBlock, Sort.ahead, Array.getElem?_modify, Ne.symm h]
theorem ret_del {zs : List Int} {i j : Nat} {T : TypeId} (h0 : 0 < zs.length) (hij : i ≤ j) (hj : j ≤ zs.length) : RetDel cfxC 93 [.raw (.int .i64 i), .raw (.int .i64 j)] (ints zs) T 1 zs.length (ints (zs.take i ++ zs.drop j)) T 1 (zs.length - (j - i)) := by
  intro h lim b hL hl hlb hb ρ w RH hu
  have hcell := RH.cell b _ hb
  have hnil : (ρ.blk b).nil = false := by
    cases q : (ρ.blk b).nil with
    | false => rfl
    | true =>
      have h2 := congrArg List.length (hcell.nil q)
      rw [ints_len, List.length_nil] at h2
      omega
  obtain ⟨p1, p2⟩ := hcell.room _ rfl
  obtain ⟨p3, p4⟩ := p2 hnil
  rw [ints_len] at p3
  obtain ⟨fr, q1, q2⟩ := hcell.row hnil
  rw [q2 (by intro e; cases e)] at q1
  have hrow : (ρ.blk b).row (concs ρ (ints zs)) = zs.map (Value.int .i64) ++ (ρ.blk b).sp := by rw [concs_ints]; simp [Loc.row, p1]
  rw [hrow] at q1
  have hH : Holds (Value.int .i64) w (ρ.blk b).n 0 zs.toArray := fun k hk => by
    have hk2 : k < zs.length := by simpa using hk
    simp [World.cell?, World.frozen?, q1, List.getElem?_append, hk2]
  have hargs : (concs ρ (.slo b zs.length :: [.raw (.int .i64 i), .raw (.int .i64 j)])).toArray = #[.slice (some ⟨(ρ.blk b).n, 0, none⟩) zs.length (ρ.blk b).cap, .int .i64 i, .int .i64 j] := by
    simp [concs, V.conc, slcOf, hnil, p1]
  rw [hargs]
  refine (Try.slices_Delete_int (ρ.blk b).n 0 (ρ.blk b).cap i j zs w hH (by omega) (by unfold maxLen at p4; omega) hij hj).mono ?_
  rintro e w' ⟨rfl, q, rfl⟩
  have hbl := lt_len hb
  have hlen : (zs.take i ++ zs.drop j ++ List.replicate (j - i) (0 : Int)).length = zs.length := by simp; omega
  have hO : (putRow (Value.int .i64) (Sort.ahead w q) (ρ.blk b).n 0 (zs.take i ++ zs.drop j ++ List.replicate (j - i) (0 : Int)).toArray).ownsRow 0 T 1 (.slice (some ⟨(ρ.blk b).n, 0, none⟩) (zs.length - (j - i)) (ρ.blk b).cap) (zs.length - (j - i)) (concs ρ (ints (zs.take i ++ zs.drop j))) := by
    refine ⟨by rw [concs_ints]; simp; omega, .inr ⟨_, _, _, rfl, Nat.zero_le _, put_heap q1, by omega, p4, ?_, ?_⟩⟩
    · simp [putCells]; omega
    · rw [concs_ints]
      apply List.ext_getElem?
      intro k
      simp only [putCells, Array.toList_mapIdx, Nat.mul_one, List.getElem?_take, List.getElem?_mapIdx, List.size_toArray, hlen, Nat.zero_le, true_and, Nat.zero_add, Nat.sub_zero, List.getElem?_map]
      by_cases hk : k < zs.length - (j - i)
      · have hk2 : k < zs.length := by omega
        rw [if_pos hk]
        have hkl : k < (zs.take i ++ zs.drop j).length := by simp; omega
        have e1 : (zs.map (Value.int .i64) ++ (ρ.blk b).sp).toArray[k]? = some (.int .i64 zs[k]) := by simp [List.getElem?_append, hk2]
        have e2 : (zs.take i ++ zs.drop j ++ List.replicate (j - i) (0 : Int)).toArray[k]! = (zs.take i ++ zs.drop j)[k] := by
          rw [getElem!_pos _ k (by simp; omega)]
          simp only [List.getElem_toArray]
          exact List.getElem_append_left hkl
        rw [List.getElem?_eq_getElem hkl]
        simp only [Option.map_some]
        rw [← e2]
        simp [List.getElem?_append, hk2]
      · rw [if_neg hk, List.getElem?_eq_none (by simp; omega)]
        rfl
  have RH1 := relH_kill RH (b := b) (by have := hL; omega)
  have hg : w.grownBy (putRow (Value.int .i64) (Sort.ahead w q) (ρ.blk b).n 0 (zs.take i ++ zs.drop j ++ List.replicate (j - i) (0 : Int)).toArray) (some (ρ.blk b).n) := ⟨rfl, rfl, rfl, by simp [putRow, mapBlock, Sort.ahead], fun k _ hk => put_other fun e => hk (by rw [e])⟩
  have hlw : lw ρ h b := ⟨_, hb, rfl, hnil⟩
  obtain ⟨ρ', r1, r2, r3, r4⟩ := append_rel (h := h) (v := .slice (some ⟨(ρ.blk b).n, 0, none⟩) zs.length (ρ.blk b).cap) (lim := lim) RH1 (by simp) (Nat.zero_lt_one) (unders_raws _ _ (ints_all _)) hl (fun x hx => by
    obtain ⟨C, k1, k2, k3⟩ := hx
    rcases get_set k1 with ⟨_, k1⟩ | ⟨_, k1⟩
    · cases k1
    · exact ⟨C, k1, k2, k3⟩) hO hg (.inl rfl) (fun g hg => by
      simp only [Value.ownBlock, Option.some.injEq] at hg
      subst hg
      refine ⟨fun x hx he => ?_, b, hlb, hlw, rfl⟩
      obtain ⟨C, k1, k3⟩ := hx
      rcases get_set k1 with ⟨_, k1⟩ | ⟨k0, k1⟩
      · cases k1
      · exact k0 (RH.inj b x hlw ⟨C, k1, k3⟩ he.symm).symm)
  exact ⟨ρ', r2, by rw [← r1], r3, r4, by simp [V.under]⟩
end Go.Proofs.Ytcibaankajfhlaa
end
section
namespace Go.Proofs.Ytcibaankajfhlaa.E2
open Go Go.RowKit
def bools (bs : List Bool) : List V := bs.map fun b => .raw (.bool b)
theorem bools_all (bs : List Bool) : (bools bs).all isRawV = true := by
  rw [List.all_eq_true]
  intro x hx
  obtain ⟨v, _, rfl⟩ := List.mem_map.1 hx
  rfl
end Go.Proofs.Ytcibaankajfhlaa.E2
end
section
namespace Go.Proofs.Ytcibaankajfhlaa.K
open Go Go.Deep Go.ChangeShapes Go.WideShapes Go.ChangeAt Go.RowKit
section
variable {H : Type} {enc : TypeId × Value → H} {P : Program}
theorem trod_stays {t : TypeId} (hl : laidOutB P = true) (hr : P.readableRec t = true) (hrow : t < P.types.size) {W W' : World} {v : Value} {d : DataW H} {ps : List MemPlace} {sp : Nat → Bool}
    (h : DataW.Trod enc P W 0 (fun _ => true) true t v d ps) (hb : Below W.heap.size W W') (hlt : ∀ x ∈ ps, x.block < W.heap.size) (hsp : ∀ x ∈ ps, sp x.block = true) :
    DataW.Trod enc P W' 0 sp true t v d ps :=
  WideElems.Trod_stays hl hr hrow h (fun x hx => hb.same (hlt x hx)) hsp
theorem all_stays (hl : laidOutB P = true) {W W' : World} {sp : Nat → Bool} (hb : Below W.heap.size W W') : ∀ (ts : List TypeId) (vs : List Value) (ds : List (DataW H)) (p : List MemPlace),
    (∀ t ∈ ts, P.readableRec t = true ∧ t < P.types.size) → DataW.TrodAll enc P W 0 (fun _ => true) true ts vs ds p → (∀ x ∈ p, x.block < W.heap.size) → (∀ x ∈ p, sp x.block = true) → DataW.TrodAll enc P W' 0 sp true ts vs ds p
  | [], vs, ds, p, _, h, _, _ => by
    obtain ⟨rfl, rfl, rfl⟩ := trodAll_nil h
    exact trodAll_mk0
  | t :: ts, vs, ds, p, hr, h, hlt, hsp => by
    obtain ⟨v0, vs0, d0, ds0, p0, q0, rfl, rfl, rfl, h0, r0⟩ := trodAll_cons h
    have h1 := hr t List.mem_cons_self
    exact trodAll_cons_mk (trod_stays hl h1.1 h1.2 h0 hb (fun x hx => hlt x (List.mem_append_left _ hx)) (fun x hx => hsp x (List.mem_append_left _ hx)))
      (all_stays hl hb ts vs0 ds0 q0 (fun t ht => hr t (List.mem_cons_of_mem _ ht)) r0 (fun x hx => hlt x (List.mem_append_right _ hx)) (fun x hx => hsp x (List.mem_append_right _ hx)))
theorem law_post {f : Func} {s : ChangeSpec} {tb : TypeId} {W W' : World} {args : Array Value} {ds gs : List (DataW H)} {before : List MemPlace}
    (hl : laidOutB P = true) (hrd : ∀ t ∈ f.params.toList, P.readableRec t = true ∧ t < P.types.size) (hrt : f.resultTypes = #[tb]) (hub : P.underlying tb = some .bool) (hv : s.vars = [])
    (hW : DataW.Whole enc P f.params.toList s.vars false W args.toList ds gs before) (hfn : s.fn H (ds ++ gs) = { results := [.lit (.bool true)], args := ds }) (hb : Below W.heap.size W W') :
    s.post enc P f false true false false W args (.bool true) W' := by
  have hW' := hW
  obtain ⟨p, q, hA, hV, rfl, hz, hn⟩ := hW'
  have hlt : ∀ x ∈ p ++ q, x.block < W.heap.size := fun x hx => hW.lt x hx
  rw [hv] at hV
  obtain ⟨rfl, rfl⟩ := trodVars_none hV
  have hargs : ∀ sp : Nat → Bool, (∀ x ∈ p ++ [], sp x.block = true) → DataW.TrodAll enc P W' 0 sp true f.params.toList args.toList (s.fn H (ds ++ [])).args p := fun sp hsp => by
    rw [hfn]
    exact all_stays hl hb _ _ _ _ hrd hA (fun x hx => hlt x (by simpa using hx)) (fun x hx => hsp x (by simpa using hx))
  have hres : ∀ (b : Nat) (sp : Nat → Bool) (hd : Bool), DataW.TrodAll enc P W' b sp hd f.resultTypes.toList ((Value.bool true).resultList f.resultTypes.size) (s.fn H (ds ++ [])).results [] := fun b sp hd => by
    rw [hfn, hrt]
    exact trodAll_cons_mk (shut_bool hub _) trodAll_mk0
  have hvars : ∀ sp : Nat → Bool, DataW.TrodVars enc P W' sp s.vars (s.fn H (ds ++ [])).vars [] := fun sp => by
    rw [hfn, hv]
    rfl
  have hold : ∀ x ∈ p ++ [], (fun b => decide (b < W.heap.size)) x.block = true := fun x hx => by simpa using hlt x hx
  refine ⟨ds, [], p ++ [], [], p, [], hW, hres _ _ _, hargs _ hold, hvars _, World.keptBut_mono (fun x hx => ⟨hx, ?_⟩) (hb.frame (· ∈ p ++ [])), fun _ => ?_⟩
  · rw [List.mem_append] at hx
    exact Or.inr hx
  · refine ⟨?_, _, _, ([] ++ p) ++ [], ⟨[] ++ p, [], trodAll_append (hargs _ (fun _ _ => rfl)) (hres _ _ _), hvars _, rfl, ?_, ?_⟩, ?_⟩
    · exact ok_one hrt rfl (okWide_bool_mk hub _)
    · intro b off hp
      have hin : MemPlace.cell b off ∈ p ++ [] := by simpa using hp
      rw [hb.frozen (hlt _ hin)]
      exact hz b off hin
    · intro ha
      cases ha
    · intro x hx _
      simpa using hx
end
end Go.Proofs.Ytcibaankajfhlaa.K
end
section
namespace Go.Proofs.Ytcibaankajfhlaa.K
open Go Go.Deep Go.ChangeShapes Go.WideShapes Go.ChangeAt Go.RowKit
def flatFs (P : Program) (rec : TypeId → Option (List (Option IntKind))) : Nat → List Field → Option (List (Option IntKind))
  | _, [] => some []
  | off, f :: fs => match rec f.type with
    | some l => if f.offset = off ∧ P.cellsOf f.type = l.length then (flatFs P rec (off + l.length) fs).map (l ++ ·) else none
    | none => none
def flatK (P : Program) : Nat → TypeId → Option (List (Option IntKind))
  | 0, _ => none
  | d + 1, t => match P.underlying t with
    | some .bool => some [none]
    | some (.int k) => some [some k]
    | some (.struct fs) => match flatFs P (flatK P d) 0 fs.toList with
      | some l => if l.length = P.cellsOf t then some l else none
      | none => none
    | _ => none
def AllOk : List (Option IntKind) → List Value → Prop
  | [], cs => cs = []
  | some k :: l, cs => ∃ n rest, cs = .int k n :: rest ∧ (Lit.int k n).wf = true ∧ AllOk l rest
  | none :: l, cs => ∃ b rest, cs = .bool b :: rest ∧ AllOk l rest
theorem AllOk.append : ∀ {l m : List (Option IntKind)} {cs ds : List Value}, AllOk l cs → AllOk m ds → AllOk (l ++ m) (cs ++ ds)
  | [], m, cs, ds, h, k => by
    have : cs = [] := h
    subst this; exact k
  | some x :: l, m, cs, ds, h, k => by
    obtain ⟨n, rest, rfl, hw, hr⟩ := h
    exact ⟨n, rest ++ ds, rfl, hw, hr.append k⟩
  | none :: l, m, cs, ds, h, k => by
    obtain ⟨n, rest, rfl, hr⟩ := h
    exact ⟨n, rest ++ ds, rfl, hr.append k⟩
theorem AllOk.length : ∀ {l : List (Option IntKind)} {cs : List Value}, AllOk l cs → cs.length = l.length
  | [], cs, h => by
    have : cs = [] := h
    subst this; rfl
  | some x :: l, cs, h => by
    obtain ⟨n, rest, rfl, hw, hr⟩ := h
    simp [hr.length]
  | none :: l, cs, h => by
    obtain ⟨n, rest, rfl, hr⟩ := h
    simp [hr.length]
section
variable {H : Type} {enc : TypeId × Value → H} {P : Program} {w : World} {base : Nat} {spare : Nat → Bool} {held : Bool}
theorem flat_fields {rec : TypeId → Option (List (Option IntKind))} {n : Nat} (hrec : ∀ t l cs x, rec t = some l → DataW.trod enc P w base spare held n t cs = some x → AllOk l cs) (cs : List Value) :
    ∀ (fs : List Field) (off : Nat) (l : List (Option IntKind)), flatFs P rec off fs = some l → off + l.length ≤ cs.length → (∀ f ∈ fs, ∃ x, DataW.trod enc P w base spare held n f.type ((cs.drop f.offset).take (P.cellsOf f.type)) = some x) → AllOk l ((cs.drop off).take l.length)
  | [], off, l, h, hl, hf => by
    simp only [flatFs, Option.some.injEq] at h
    subst h
    simp [AllOk]
  | f :: fs, off, l, h, hl, hf => by
    simp only [flatFs] at h
    split at h
    · rename_i m hm
      split at h
      · rename_i hh
        obtain ⟨h1, h2⟩ := hh
        rw [Option.map_eq_some_iff] at h
        obtain ⟨k, hk, rfl⟩ := h
        obtain ⟨x, hx⟩ := hf f List.mem_cons_self
        rw [h1, h2] at hx
        have a1 := hrec _ _ _ _ hm hx
        have a2 := flat_fields hrec cs fs (off + m.length) k hk (by simp at hl; omega) (fun g hg => hf g (List.mem_cons_of_mem _ hg))
        have e : (cs.drop off).take (m ++ k).length = (cs.drop off).take m.length ++ (cs.drop (off + m.length)).take k.length := by
          rw [List.length_append, List.take_add, List.drop_drop]
        rw [e]
        exact a1.append a2
      · cases h
    · cases h
theorem flat_cells : ∀ (d : Nat) (fuel : Nat) (t : TypeId) (l : List (Option IntKind)) (cs : List Value) (x : DataW H × List MemPlace), flatK P d t = some l → DataW.trod enc P w base spare held fuel t cs = some x → AllOk l cs
  | 0, fuel, t, l, cs, x, h, hx => by simp [flatK] at h
  | d + 1, fuel, t, l, cs, x, h, hx => by
    simp only [flatK] at h
    split at h
    · rename_i hu
      simp only [Option.some.injEq] at h
      subst h
      cases fuel with
      | zero => simp [DataW.trod] at hx
      | succ m =>
        unfold DataW.trod at hx
        rw [hu] at hx
        split at hx <;> simp_all [AllOk]
    · rename_i k hu
      simp only [Option.some.injEq] at h
      subst h
      cases fuel with
      | zero => simp [DataW.trod] at hx
      | succ m =>
        unfold DataW.trod at hx
        rw [hu] at hx
        split at hx <;> simp_all [AllOk]
    · rename_i fs hu
      split at h
      · rename_i m hm
        split at h
        · rename_i hlen
          simp only [Option.some.injEq] at h
          subst h
          obtain ⟨xs, n, _, rfl, hl, hxl, hf⟩ := DataW.trod_struct hu hx
          have := flat_fields (n := n) (fun t l cs x h1 h2 => flat_cells d n t l cs x h1 h2) cs fs.toList 0 m hm (by omega) (fun f hfm => by
            obtain ⟨i, hi⟩ := List.getElem?_of_mem hfm
            have hlt : i < xs.length := by
              have : i < fs.toList.length := by
                rcases Nat.lt_or_ge i fs.toList.length with k | k
                · exact k
                · rw [List.getElem?_eq_none k] at hi; cases hi
              simp at this
              omega
            exact ⟨xs[i], (hf i f (by simpa using hi)).trans (List.getElem?_eq_getElem hlt)⟩)
          rw [List.drop_zero, List.take_of_length_le (by omega)] at this
          exact this
        · cases h
      · cases h
    · cases h
theorem flat_open {r : Reach} {b0 : Nat} {t : TypeId} {fs : Array Field} {l : List (Option IntKind)} {v : Value} {dd : DataW H} {p : List MemPlace} (hs : P.underlying t = some (.struct fs)) (hl : flatK P 9 t = some l) (hv : Value.okWide P w r b0 t v) (h : DataW.Trod enc P w base spare held t v dd p) :
    ∃ cs, v = .agg ⟨cs⟩ ∧ AllOk l cs := by
  obtain ⟨⟨cs⟩, rfl, _⟩ := okWide_struct hs hv
  obtain ⟨fuel, hf⟩ := h
  exact ⟨cs, rfl, flat_cells 9 fuel t l cs _ hl hf⟩
end
end Go.Proofs.Ytcibaankajfhlaa.K
end
section
namespace Go.Proofs.Ytcibaankajfhlaa.K
open Go Go.Deep Go.ChangeShapes Go.WideShapes Go.ChangeAt Go.RowKit
theorem rowAt_le {P : Program} {fits : TypeId → Bool} : ∀ (d : Nat) (e : TypeId) (count off n : Nat), rowAt P fits d e count off n = true → off ≤ count * P.cellsOf e
  | 0, _, _, _, _, h => by simp [rowAt] at h
  | d + 1, e, count, off, n, h => by
    unfold rowAt at h
    dsimp only at h
    split at h
    · cases h
    · rename_i hs
      have e1 : off = off / P.cellsOf e * P.cellsOf e + off % P.cellsOf e := by
        have := Nat.div_add_mod off (P.cellsOf e)
        rw [Nat.mul_comm] at this
        omega
      have hlt : off % P.cellsOf e < P.cellsOf e := Nat.mod_lt _ (by omega)
      rw [Bool.or_eq_true] at h
      rcases h with h | h
      · simp only [Bool.and_eq_true, beq_iff_eq, decide_eq_true_eq] at h
        obtain ⟨⟨h1, h2⟩, _⟩ := h
        have : off / P.cellsOf e * P.cellsOf e ≤ count * P.cellsOf e := Nat.mul_le_mul_right _ (by omega)
        omega
      · simp only [Bool.and_eq_true, decide_eq_true_eq] at h
        have : (off / P.cellsOf e + 1) * P.cellsOf e ≤ count * P.cellsOf e := Nat.mul_le_mul_right _ (by omega)
        rw [Nat.add_mul] at this
        omega
theorem liesAt_le {P : Program} : ∀ (d : Nat) (e : TypeId) (count off : Nat) (u : TypeId) (n : Nat), liesAt P d e count off u n = true → off ≤ count * P.cellsOf e
  | 0, _, _, _, _, _, h => by simp [liesAt] at h
  | d + 1, e, count, off, u, n, h => by
    unfold liesAt at h
    rw [Bool.or_eq_true] at h
    rcases h with h | h
    · exact rowAt_le _ _ _ _ _ h
    · split at h
      · exact liesAt_le d _ _ _ _ _ h
      · cases h
theorem allOk_get : ∀ (n : Nat) (cs : List Value), AllOk (List.replicate n (some .i64)) cs → ∀ j, j < n → ∃ z, cs[j]? = some (.int .i64 z) ∧ (Lit.int .i64 z).wf = true
  | 0, _, _, j, hj => by omega
  | n + 1, cs, h, j, hj => by
    rw [List.replicate_succ] at h
    obtain ⟨z, rest, rfl, hw, hr⟩ := h
    cases j with
    | zero => exact ⟨z, rfl, hw⟩
    | succ j =>
      obtain ⟨y, h1, h2⟩ := allOk_get n rest hr j (by omega)
      exact ⟨y, by simpa using h1, h2⟩
def numOf : Value → Int
  | .int _ z => z
  | _ => 0
section
variable {H : Type} {enc : TypeId × Value → H} {P : Program} {w : World} {base : Nat} {spare : Nat → Bool} {held : Bool}
theorem open_row {r : Reach} {b0 : Nat} {t e : TypeId} {n : Nat} {v : Value} {dd : DataW H} {p : List MemPlace} (hs : P.underlying t = some (.slice e)) (hl : flatK P 9 e = some (List.replicate n (some .i64))) (hc : P.cellsOf e = n) (hn : 0 < n) (hv : Value.okWide P w r b0 t v) (h : DataW.Trod enc P w base spare held t v dd p) :
    ∃ (l : E2.Loc) (m : Nat) (zs : List Int) (T : TypeId), v = E2.slcOf l m ∧ zs.length = m * n ∧ (∀ z ∈ zs, (Lit.int .i64 z).wf = true) ∧ ∀ ρ, E2.CellsOk ρ l w (E2.ints zs) T .ro := by
  obtain ⟨a0, len0, cap0, rfl⟩ := okWide_slice hs hv
  obtain ⟨fuel, hf⟩ := h
  rcases DataW.trod_slice hs hf with ⟨h0, _⟩ | ⟨a, len, cap, elems, rest, k, _, h0, _, hb, hlc, hcm, hlen, hel, _, _⟩
  · have : Value.slice a0 len0 cap0 = .slice none 0 0 := by simpa [Value.cells] using h0
    rw [this]
    exact ⟨⟨0, [], [], 0, true⟩, 0, [], 0, rfl, by simp, fun z hz => (by cases hz), fun ρ => ⟨fun _ => rfl, fun hq => (by cases hq), fun sz hq => (by cases hq)⟩⟩
  · have hvv : Value.slice a0 len0 cap0 = .slice (some a) len cap := by simpa [Value.cells] using h0
    rw [hvv] at hv ⊢
    -- the block
    have hok : w.has P r b0 a e cap := by
      unfold Value.okWide at hv
      rw [hs] at hv
      simp only [Cell.okWide, hs, Cell.ok] at hv
      exact hv.2.2
    obtain ⟨_, hspot, row, size, hsh, hlies⟩ := hok
    obtain ⟨c, fr, hblk, rfl⟩ : ∃ c fr, w.heap[a.block]? = some (.cells c row fr) ∧ size = c.size := by
      unfold World.shape? at hsh
      split at hsh
      · rename_i c elem fr hb
        simp only [Option.some.injEq, Prod.mk.injEq] at hsh
        obtain ⟨rfl, rfl⟩ := hsh
        exact ⟨c, fr, hb, rfl⟩
      · cases hsh
    have hoff : a.off ≤ c.size := Nat.le_trans (liesAt_le _ _ _ _ _ _ hlies) (Nat.div_mul_le_self _ _)
    have hcell : ∀ i j, i < len → j < n → ∃ z, c[a.off + (i * n + j)]? = some (.int .i64 z) ∧ (Lit.int .i64 z).wf = true := by
      intro i j hi hj
      have h1 := hel i hi
      rw [List.getElem?_eq_getElem (by omega)] at h1
      obtain ⟨cs, h2, h3⟩ := Option.bind_eq_some_iff.1 h1
      rw [hc] at h2
      obtain ⟨z, h4, h5⟩ := allOk_get n cs (flat_cells 9 _ _ _ _ _ hl h3) j hj
      obtain ⟨_, _, h6⟩ := World.cells?_some h2
      have h7 := h6 j hj
      rw [Deep.add_add] at h7
      have h8 : w.cell? (a.add (i * n + j)) = c[a.off + (i * n + j)]? := by
        unfold World.cell? Addr.add
        by_cases hz : i * n + j = 0
        · rw [if_pos hz, hblk, hz]; simp [hspot]
        · rw [if_neg hz]; simp [hblk]
      exact ⟨z, by rw [← h8, h7]; exact h4, h5⟩
    have hat : ∀ k, k < len * n → ∃ z, c[a.off + k]? = some (.int .i64 z) ∧ (Lit.int .i64 z).wf = true := by
      intro k hk
      have hi : k / n < len := by rw [Nat.div_lt_iff_lt_mul hn]; exact hk
      have := hcell (k / n) (k % n) hi (Nat.mod_lt _ hn)
      have e1 : k / n * n + k % n = k := by
        have := Nat.div_add_mod k n
        rw [Nat.mul_comm] at this
        exact this
      rwa [e1] at this
    have hfit : a.off + len * n ≤ c.size := by
      rcases Nat.eq_zero_or_pos (len * n) with h0 | h0
      · omega
      · obtain ⟨z, hz, _⟩ := hat (len * n - 1) (by omega)
        have := (Array.getElem?_eq_some_iff.1 hz).1
        omega
    refine ⟨⟨a.block, c.toList.take a.off, c.toList.drop (a.off + len * n), cap, false⟩, len, ((c.toList.drop a.off).take (len * n)).map numOf, row, ?_, ?_, ?_, fun ρ => ⟨fun hq => (by cases hq), fun _ => ⟨fr, ?_, fun hq => absurd rfl hq⟩, fun sz hq => (by cases hq)⟩⟩
    · unfold E2.slcOf
      rw [if_neg (by simp)]
      have e1 : (c.toList.take a.off).length = a.off := by simp; omega
      simp only [e1]
      cases a with
      | mk b o s => simp only at hspot; subst hspot; rfl
    · simp; omega
    · intro z hz
      obtain ⟨u, hu, rfl⟩ := List.mem_map.1 hz
      obtain ⟨k, hk⟩ := List.getElem?_of_mem hu
      rw [List.getElem?_take] at hk
      split at hk
      · rename_i hlt
        obtain ⟨y, h1, h2⟩ := hat k hlt
        rw [List.getElem?_drop, Array.getElem?_toList, h1] at hk
        cases hk
        exact h2
      · cases hk
    · have e2 : E2.concs ρ (E2.ints (((c.toList.drop a.off).take (len * n)).map numOf)) = (c.toList.drop a.off).take (len * n) := by
        have : E2.ints (((c.toList.drop a.off).take (len * n)).map numOf) = (((c.toList.drop a.off).take (len * n))).map .raw := by
          unfold E2.ints
          rw [List.map_map]
          refine List.map_congr_left fun u hu => ?_
          obtain ⟨k, hk⟩ := List.getElem?_of_mem hu
          rw [List.getElem?_take] at hk
          split at hk
          · rename_i hlt
            obtain ⟨y, h1, h2⟩ := hat k hlt
            rw [List.getElem?_drop, Array.getElem?_toList, h1] at hk
            cases hk
            rfl
          · cases hk
        rw [this, E2.concs_raw]
      rw [e2]
      have e3 : c.toList.take a.off ++ (c.toList.drop a.off).take (len * n) ++ c.toList.drop (a.off + len * n) = c.toList := by
        rw [List.append_assoc, ← List.drop_drop, List.take_append_drop, List.take_append_drop]
      show w.heap[a.block]? = some (.cells (c.toList.take a.off ++ (c.toList.drop a.off).take (len * n) ++ c.toList.drop (a.off + len * n)).toArray row fr)
      rw [e3]
      exact hblk
end
end Go.Proofs.Ytcibaankajfhlaa.K
namespace Go.Proofs.Ytcibaankajfhlaa.E2
open Go Go.RowKit
theorem calls_rows {c : Cfg} {lim : Nat} {f : FuncId} {args : List V} {H H' : Heap} {x : Value} (hm : Meets c lim f args H (.raw x) H') (hL : c.L = 0) (hG : c.G = []) (ls : List Loc) (w : World) (hlen : ls.length = H.length)
    (hro : ∀ (i : Nat) (B : Blk), H[i]? = some (some B) → ∃ zs T, B = .cells (ints zs) T .ro ∧ ∀ ρ, CellsOk ρ (ls.getD i (Loc.at 0)) w (ints zs) T .ro) (hu : unders H.length args = true) :
    Calls c.P f (concs ⟨fun i => ls.getD i (Loc.at 0), fun _ => undef⟩ args).toArray w fun e w' => e = .returned x ∧ Below w.heap.size w w' := by
  have R : RelH c ⟨fun i => ls.getD i (Loc.at 0), fun _ => undef⟩ H w := by
    refine ⟨fun i B hB => ?_, fun i j hi hj he => ?_, fun i B hB => ?_, fun p hp => (by rw [hG] at hp; cases hp), by omega, fun i hi => by omega⟩
    · obtain ⟨zs, T, rfl, hk⟩ := hro i B hB
      exact hk _
    · obtain ⟨B, a1, a2, a3⟩ := hi
      obtain ⟨zs, T, rfl, _⟩ := hro i B a1
      cases a2
    · obtain ⟨zs, T, rfl, _⟩ := hro i B hB
      exact unders_raws _ _ (ints_all zs)
  refine (hm _ w R hu).mono fun e w' ⟨ρ', _, he, _, F, _⟩ => ?_
  refine ⟨he, F.os, F.tape, F.output, F.size, fun k hk => F.blk k hk fun i _ h2 => ?_⟩
  obtain ⟨B, a1, a2, a3⟩ := h2
  obtain ⟨zs, T, rfl, _⟩ := hro i B a1
  cases a2
def RowsOk (ls : List Loc) (H : Heap) (w : World) : Prop := ∀ (i : Nat) (B : Blk), H[i]? = some (some B) → ∃ zs T, B = .cells (ints zs) T .ro ∧ ∀ ρ, CellsOk ρ (ls.getD i (Loc.at 0)) w (ints zs) T .ro
theorem rows_nil {w : World} : RowsOk [] [] w := fun i B h => by simp at h
theorem rows_cons {zs : List Int} {T : TypeId} {l : Loc} {ls : List Loc} {H : Heap} {w : World} (h0 : ∀ ρ, CellsOk ρ l w (ints zs) T .ro) (hr : RowsOk ls H w) : RowsOk (l :: ls) (some (.cells (ints zs) T .ro) :: H) w := fun i B h => by
  match i with
  | 0 =>
    simp only [List.getElem?_cons_zero, Option.some.injEq] at h
    exact ⟨zs, T, h.symm, h0⟩
  | i + 1 => exact hr i B (by simpa using h)
end Go.Proofs.Ytcibaankajfhlaa.E2
end
section
namespace Go.Proofs.Ytcibaankajfhlaa.E2
open Go Go.RowKit
def nz (zs : List Int) (k : Nat) : Bool := !decide (at' zs k = 0)
def cellV (zs : List Int) (b : Bool) (k : Nat) : Value := match b with
  | true => .bool (nz zs k)
  | false => .int .i64 (at' zs k)
def mix (ks : List Bool) (zs : List Int) : List V := (List.range zs.length).map fun k => .raw (cellV zs (ks.getD (k % ks.length) false) k)
theorem mix_all (ks : List Bool) (zs : List Int) : (mix ks zs).all isRawV = true := by
  rw [List.all_eq_true]
  intro x hx
  obtain ⟨k, _, rfl⟩ := List.mem_map.1 hx
  rfl
end Go.Proofs.Ytcibaankajfhlaa.E2
namespace Go.Proofs.Ytcibaankajfhlaa.K
open Go Go.Deep Go.ChangeShapes Go.WideShapes Go.ChangeAt Go.RowKit
section
variable {H : Type} {enc : TypeId × Value → H} {P : Program} {w : World} {base : Nat} {spare : Nat → Bool} {held : Bool}
end
end Go.Proofs.Ytcibaankajfhlaa.K
end
section
namespace Go.Proofs.Ytcibaankajfhlaa.E2
open Go Go.RowKit
structure Mp where
  es : List (Int × List Int × Nat)
  clk : Nat
def mput1 (k : Int) (v : List Int) (n : Nat) : List (Int × List Int × Nat) → List (Int × List Int × Nat)
  | [] => [(k, v, n)]
  | e :: l => if e.1 = k then (k, v, e.2.2) :: l else e :: mput1 k v n l
def mdel1 (k : Int) : List (Int × List Int × Nat) → List (Int × List Int × Nat)
  | [] => []
  | e :: l => if e.1 = k then l else e :: mdel1 k l
def mfind (k : Int) : List (Int × List Int × Nat) → Option (List Int)
  | [] => none
  | e :: l => if e.1 = k then some e.2.1 else mfind k l
def mhas (m : Mp) (k : Int) : Bool := (mfind k m.es).isSome
def mget (m : Mp) (k : Int) : List Int := (mfind k m.es).getD []
def mput (m : Mp) (k : Int) (v : List Int) : Mp := ⟨mput1 k v m.clk m.es, if mhas m k then m.clk else m.clk + 1⟩
def mlen (m : Mp) : Int := (m.es.length : Int)
def mnil : Mp := ⟨[], 0⟩
def cellsK : List Bool → List Int → Nat → List Value
  | [], _, _ => []
  | b :: ks, z, j => (match b with
    | true => .bool (nz z j)
    | false => .int .i64 (at' z j)) :: cellsK ks z (j + 1)
def shV (ks : List Bool) (z : List Int) : V := match ks with
  | [] => .raw (.int .i64 (at' z 0))
  | _ => .raw (.agg (cellsK ks z 0).toArray)
def mks (m : Mp) : List Value := m.es.map fun e => .int .i64 e.1
def mvs' (ks : List Bool) (m : Mp) : List V := m.es.map fun e => shV ks e.2.1
def mbs (m : Mp) : List Nat := m.es.map fun e => e.2.2
def mapB (ks : List Bool) (m : Mp) : Blk := .mp (mks m) (mvs' ks m) (mbs m) m.clk
def ansM (ks : List Bool) (m : Mp) : Ans := .mpb (mks m) (mvs' ks m) (mbs m) m.clk
def midx (k : Int) : List (Int × List Int × Nat) → Nat → Option Nat
  | [], _ => none
  | e :: l, i => if e.1 = k then some i else midx k l (i + 1)
theorem midx_some {k : Int} {v : List Int} {n : Nat} : ∀ (es : List (Int × List Int × Nat)) (i j : Nat), midx k es i = some j → ∃ (p : Nat) (e : Int × List Int × Nat), j = i + p ∧ es[p]? = some e ∧ e.1 = k ∧ mfind k es = some e.2.1 ∧ mput1 k v n es = es.set p (k, v, e.2.2) ∧ mdel1 k es = es.eraseIdx p
  | [], i, j, h => by simp [midx] at h
  | e :: es, i, j, h => by
    simp only [midx] at h
    by_cases hk : e.1 = k
    · rw [if_pos hk, Option.some.injEq] at h
      subst h
      exact ⟨0, e, rfl, rfl, hk, by simp [mfind, hk], by simp [mput1, hk], by simp [mdel1, hk]⟩
    · rw [if_neg hk] at h
      obtain ⟨p, e', h1, h2, h3, h4, h5, h6⟩ := midx_some (k := k) (v := v) (n := n) es (i + 1) j h
      exact ⟨p + 1, e', by omega, by simpa using h2, h3, by simp [mfind, hk, h4], by simp [mput1, hk, h5], by simp [mdel1, hk, h6]⟩
theorem midx_none {k : Int} {v : List Int} {n : Nat} : ∀ (es : List (Int × List Int × Nat)) (i : Nat), midx k es i = none → mfind k es = none ∧ mput1 k v n es = es ++ [(k, v, n)] ∧ mdel1 k es = es
  | [], i, h => ⟨rfl, rfl, rfl⟩
  | e :: es, i, h => by
    simp only [midx] at h
    by_cases hk : e.1 = k
    · rw [if_pos hk] at h; cases h
    · rw [if_neg hk] at h
      obtain ⟨h1, h2, h3⟩ := midx_none (k := k) (v := v) (n := n) es (i + 1) h
      exact ⟨by simp [mfind, hk, h1], by simp [mput1, hk, h2], by simp [mdel1, hk, h3]⟩
section
variable {c : Cfg} {kt : TypeId} {k : Int} {ks : List Bool} {m : Mp}
def KeyOk (c : Cfg) (kt : TypeId) (k : Int) : Prop := pureRun c.P (underlying kt) = some (.int .i64) ∧ pureRun c.P (Instr.checkKey true 10000 kt (.int .i64 k)) = some () ∧ pureRun c.P (Instr.checkKey false 10000 kt (.int .i64 k)) = some ()
theorem keyAt_mp : ∀ (es : List (Int × List Int × Nat)) (i : Nat), keyAt (.int .i64) (.int .i64 k) (es.map fun e => .int .i64 e.1) i = some (midx k es i)
  | [], i => rfl
  | e :: es, i => by
    simp only [List.map_cons, keyAt, Instr.sameNow, if_true, midx]
    by_cases h : e.1 = k
    · rw [show (k == e.1) = true by simp [h], if_pos h]
    · rw [show (k == e.1) = false by simp only [beq_eq_false_iff_ne, ne_eq]; exact fun q => h q.symm, if_neg h]
      exact keyAt_mp es (i + 1)
theorem findV_mp (hk : KeyOk c kt k) : findV c kt (mks m) (.int .i64 k) = some (midx k m.es 0) := by
  unfold findV
  rw [hk.1, hk.2.1, hk.2.2]
  dsimp only
  unfold mks
  rw [keyAt_mp]
theorem mp_len : (mks m).length = (mvs' ks m).length ∧ (mks m).length = (mbs m).length := by simp [mks, mvs', mbs]
theorem map_get (hk : KeyOk c kt k) (h : mhas m k = true) : getM c kt (mks m) (mvs' ks m) (.int .i64 k) = some (some (shV ks (mget m k))) := by
  unfold getM
  rw [findV_mp hk]
  cases hi : midx k m.es 0 with
  | none =>
    have := (midx_none (v := []) (n := 0) _ _ hi).1
    simp [mhas, this] at h
  | some j =>
    obtain ⟨p, e, h1, h2, h3, h4, _⟩ := midx_some (v := []) (n := 0) _ _ _ hi
    have hj : j = p := by omega
    subst hj
    dsimp only
    unfold mvs'
    rw [List.getElem?_map, h2]
    simp [mget, h4]
theorem map_no (hk : KeyOk c kt k) (h : mhas m k = false) : getM c kt (mks m) (mvs' ks m) (.int .i64 k) = some none := by
  unfold getM
  rw [findV_mp hk]
  cases hi : midx k m.es 0 with
  | none => rfl
  | some j =>
    obtain ⟨p, e, h1, h2, h3, h4, _⟩ := midx_some (v := []) (n := 0) _ _ _ hi
    simp [mhas, h4] at h
theorem set_same {α : Type} : ∀ (l : List α) (p : Nat) (x : α), l[p]? = some x → l.set p x = l
  | [], p, x, h => by simp at h
  | y :: l, 0, x, h => by simp at h; simp [h]
  | y :: l, p + 1, x, h => by simp at h; simp [set_same l p x h]
theorem map_put (hk : KeyOk c kt k) (z : List Int) : putM c kt (mks m) (mvs' ks m) (mbs m) m.clk (.int .i64 k) (shV ks z) = some (mks (mput m k z), mvs' ks (mput m k z), mbs (mput m k z), (mput m k z).clk) := by
  unfold putM
  rw [findV_mp hk]
  cases hi : midx k m.es 0 with
  | none =>
    obtain ⟨h1, h2, _⟩ := midx_none (v := z) (n := m.clk) _ _ hi
    simp [mks, mvs', mbs, mput, h2, mhas, h1]
  | some j =>
    obtain ⟨p, e, h1, h2, h3, h4, h5, _⟩ := midx_some (v := z) (n := m.clk) _ _ _ hi
    have hj : j = p := by omega
    subst hj
    dsimp only
    rw [show (mks m)[j]? = some (.int .i64 e.1) by simp [mks, h2]]
    dsimp only
    rw [if_pos (by simp [Instr.sameBits, h3])]
    simp only [mks, mvs', mbs, mput, h5, List.map_set, mhas, h4, Option.isSome_some, if_true]
    rw [set_same (m.es.map fun e => e.2.2) j e.2.2 (by simp [h2])]
theorem map_len : goInt (mks m).length = .int .i64 (mlen m) := by simp [mks, mlen, goInt]
theorem shV_raw (ks : List Bool) (z : List Int) : isRawV (shV ks z) = true := by
  unfold shV
  split <;> rfl
theorem mvs_all (ks : List Bool) (m : Mp) : (mvs' ks m).all isRawV = true := by
  rw [List.all_eq_true]
  intro x hx
  obtain ⟨e, _, rfl⟩ := List.mem_map.1 hx
  exact shV_raw ks _
end
theorem mfind_put1 (k q : Int) (v : List Int) (n : Nat) : ∀ es, mfind q (mput1 k v n es) = if k = q then some v else mfind q es
  | [] => by simp [mput1, mfind]
  | e :: es => by
    simp only [mput1]
    by_cases h : e.1 = k
    · rw [if_pos h]
      simp only [mfind]
      by_cases h2 : k = q
      · rw [if_pos h2, if_pos h2]
      · rw [if_neg h2, if_neg h2, if_neg (by rw [h]; exact h2)]
    · rw [if_neg h]
      simp only [mfind]
      by_cases h2 : e.1 = q
      · rw [if_pos h2, if_pos h2]
        by_cases h3 : k = q
        · exact absurd (h2.trans h3.symm) h
        · rw [if_neg h3]
      · rw [if_neg h2, if_neg h2]
        exact mfind_put1 k q v n es
theorem mhas_put (m : Mp) (k q : Int) (v : List Int) : mhas (mput m k v) q = (decide (k = q) || mhas m q) := by
  unfold mhas mput
  rw [mfind_put1]
  by_cases h : k = q <;> simp [h]
theorem mget_put (m : Mp) (k q : Int) (v : List Int) : mget (mput m k v) q = if k = q then v else mget m q := by
  unfold mget mput
  rw [mfind_put1]
  by_cases h : k = q <;> simp [h]
theorem mput1_len (k : Int) (v : List Int) (n : Nat) : ∀ es, (mput1 k v n es).length = if (mfind k es).isSome then es.length else es.length + 1
  | [] => by simp [mput1, mfind]
  | e :: es => by
    by_cases h : e.1 = k
    · simp [mput1, mfind, h]
    · have e2 : mfind k (e :: es) = mfind k es := by simp [mfind, h]
      simp only [mput1, if_neg h, List.length_cons, mput1_len k v n es, e2]
      split <;> simp
theorem mlen_put (m : Mp) (k : Int) (v : List Int) : mlen (mput m k v) = if mhas m k then mlen m else mlen m + 1 := by
  unfold mlen mput mhas
  rw [mput1_len]
  split <;> simp
theorem mhas_nil (k : Int) : mhas mnil k = false := rfl
def pk2 (a b : Int) (k : Nat) : Int := if k = 0 then a else b
theorem load_pk2 {c : Cfg} {T : TypeId} {a b : Int} {k : Nat} (hT : pureRun c.P (isAgg T) = some false) (h : k < 2) : loadRow c T [.raw (.int .i64 a), .raw (.int .i64 b)] k = some (.raw (.int .i64 (pk2 a b k))) := by
  unfold loadRow
  rw [hT]
  match k with
  | 0 => rfl
  | 1 => rfl
  | k + 2 => omega
section
variable {τ : Nat → Nat} {nl : Nat → Bool} {h : Heap} {m j : Nat} {l : Heap}
theorem ents_mp {ks : List Value} {vs : List V} {bs : List Nat} {k : Nat} (hr : vs.all isRawV = true) (h1 : nl j = false) (h2 : h[τ j]? = some (some (.mp ks vs bs k))) (kk : Paid (entries τ nl h m (j + 1) l)) : Paid (entries τ nl h m j (some (.mp ks vs bs k) :: l)) := by
  refine ⟨?_, unders_raws _ _ hr, nilOks_raw _ _ hr, kk⟩
  rw [h1]
  show h[τ j]? = some (some (.mp ks (mvs τ nl vs) bs k))
  rw [mvs_raw τ nl vs hr]
  exact h2
theorem ents_map {ks : List Bool} {q : Mp} (h1 : nl j = false) (h2 : h[τ j]? = some (some (mapB ks q))) (kk : Paid (entries τ nl h m (j + 1) l)) : Paid (entries τ nl h m j (some (mapB ks q) :: l)) := ents_mp (mvs_all ks q) h1 h2 kk
end
def RawB (B : Blk) : Prop := (∃ cs ty own, B = .cells cs ty own ∧ cs.all isRawV = true) ∨ ∃ ks vs bs k, B = .mp ks vs bs k ∧ vs.all isRawV = true
def SeenM (μ : Nat → Nat) (nl : Nat → Bool) (h : Heap) : Nat → Heap → Prop
  | _, [] => True
  | i, X :: H => ((∃ cs T, X = some (.cells cs T .ro) ∧ cs.all isRawV = true ∧ ((nl i = false ∧ ∃ o, h[μ i]? = some (some (.cells cs T o))) ∨ (nl i = true ∧ cs = []))) ∨ (∃ ks vs bs k, X = some (.mp ks vs bs k) ∧ vs.all isRawV = true ∧ nl i = false ∧ h[μ i]? = some (some (.mp ks vs bs k)))) ∧ SeenM μ nl h (i + 1) H
theorem SeenM.get {μ : Nat → Nat} {nl : Nat → Bool} {h : Heap} : ∀ {H : Heap} {i0 : Nat}, SeenM μ nl h i0 H → ∀ (i : Nat) (B : Blk), H[i]? = some (some B) → (∃ cs T, B = .cells cs T .ro ∧ cs.all isRawV = true ∧ ((nl (i0 + i) = false ∧ ∃ o, h[μ (i0 + i)]? = some (some (.cells cs T o))) ∨ (nl (i0 + i) = true ∧ cs = []))) ∨ (∃ ks vs bs k, B = .mp ks vs bs k ∧ vs.all isRawV = true ∧ nl (i0 + i) = false ∧ h[μ (i0 + i)]? = some (some (.mp ks vs bs k)))
  | [], i0, _, i, B, hB => by simp at hB
  | X :: H, i0, hs, i, B, hB => by
    obtain ⟨hx, hr⟩ := hs
    match i with
    | 0 =>
      simp only [List.getElem?_cons_zero, Option.some.injEq] at hB
      rcases hx with ⟨cs, T, rfl, h2, h3⟩ | ⟨ks, vs, bs, k, rfl, h2, h3, h4⟩
      · simp only [Option.some.injEq] at hB
        subst hB
        exact .inl ⟨cs, T, rfl, h2, h3⟩
      · simp only [Option.some.injEq] at hB
        subst hB
        exact .inr ⟨ks, vs, bs, k, rfl, h2, h3, h4⟩
    | i + 1 =>
      simp only [List.getElem?_cons_succ] at hB
      have := SeenM.get hr i B hB
      rwa [show i0 + 1 + i = i0 + (i + 1) by omega] at this
theorem concs_same {ρ ρ' : Ren} {l : List V} (hr : l.all isRawV = true) : concs ρ l = concs ρ' l := by
  rw [concs_map, concs_map]
  exact List.map_congr_left fun x hx => by
    have := List.all_eq_true.1 hr x hx
    cases x <;> first | rfl | cases this
theorem below_rm {c : Cfg} {lim0 lim : Nat} (hL : c.L = 0) (hG : c.G = []) {f : FuncId} {args : List V} {H N h : Heap} {v : V} (μ : Nat → Nat) (nl : Nat → Bool)
    (hm : Meets c lim0 f args H v (H ++ N)) (hl0 : ∀ (i : Nat) (B : Blk), lim0 ≤ i → H[i]? = some (some B) → B.wr = false) (hs : SeenM μ nl h 0 H) (hnl : ∀ i, H.length ≤ i → nl i = false) (hua : unders H.length args = true) (hna : nilOks nl args = true) (hnv : v.nilOk nl = true)
    (hinj : ∀ i j : Nat, i < H.length → j < H.length → nl i = false → nl j = false → μ i = μ j → i = j)
    (hnew : ∀ (k : Nat) (X : Blk), N[k]? = some (some X) → X.wr = true ∧ RawB X) (hlim : lim ≤ h.length) :
    Meets c lim f (mvs μ nl args) h (v.mv (fun k => if k < H.length then μ k else h.length + (k - H.length)) nl) (h ++ N) := by
  intro ρ w RH hu
  have hin := fun i B hB => by
    have := SeenM.get hs i B hB
    rwa [Nat.zero_add] at this
  have hall : ∀ i, i < H.length → ∃ B, H[i]? = some (some B) := fun i hi => by
    have key : ∀ {H : Heap} {i0 : Nat}, SeenM μ nl h i0 H → ∀ i, i < H.length → ∃ B, H[i]? = some (some B) := by
      intro H
      induction H with
      | nil => intro i0 _ i hi; simp at hi
      | cons X H ih =>
        intro i0 hs i hi
        obtain ⟨hx, hr⟩ := hs
        match i with
        | 0 =>
          rcases hx with ⟨cs, T, rfl, _, _⟩ | ⟨ks, vs, bs, k, rfl, _, _, _⟩
          · exact ⟨_, rfl⟩
          · exact ⟨_, rfl⟩
        | i + 1 => simpa using ih hr i (by simpa using hi)
    exact key hs i hi
  generalize hρ0 : (⟨fun i => if nl i = true then nilLoc else ρ.blk (μ i), ρ.unk⟩ : Ren) = ρ0
  have b0n : ∀ i, nl i = true → ρ0.blk i = nilLoc := fun i hi => by rw [← hρ0]; simp [hi]
  have b0y : ∀ i, nl i = false → ρ0.blk i = ρ.blk (μ i) := fun i hi => by rw [← hρ0]; simp [hi]
  have Mv : Moved μ nl ρ ρ0 := fun i => ⟨fun e => by rw [b0n i e]; rfl, fun e => b0y i e⟩
  have RH0 : RelH c ρ0 H w := by
    refine ⟨fun i B hB => ?_, fun i j hi hj he => ?_, fun i B hB => ?_, fun p hp => (by rw [hG] at hp; cases hp), by omega, fun i hi => by omega⟩
    · rcases hin i B hB with ⟨cs, T, rfl, hr, ⟨h1, o, h2⟩ | ⟨h1, rfl⟩⟩ | ⟨ks, vs, bs, k, rfl, hr, h1, h2⟩
      · rw [b0y i h1]
        have k := RH.cell _ _ h2
        refine ⟨k.nil, fun hn => ?_, fun sz hq => (by cases hq)⟩
        obtain ⟨fr, q1, _⟩ := k.row hn
        refine ⟨fr, ?_, fun hq => absurd rfl hq⟩
        rw [q1, concs_same hr]
      · rw [b0n i h1]
        exact ⟨fun _ => rfl, fun hn => (by cases hn), fun sz hq => (by cases hq)⟩
      · rw [b0y i h1]
        obtain ⟨k1, k2⟩ := RH.cell _ _ h2
        exact ⟨k1, by rw [k2, concs_same hr]⟩
    · obtain ⟨B, a1, a2, a3⟩ := hi
      obtain ⟨C, b1, b3⟩ := hj
      have yi : nl i = false := by
        cases q : nl i with
        | false => rfl
        | true => rw [b0n i q] at a3; cases a3
      have yj : nl j = false := by
        cases q : nl j with
        | false => rfl
        | true => rw [b0n j q] at b3; cases b3
      rw [b0y i yi] at a3 he
      rw [b0y j yj] at b3 he
      refine hinj i j (lt_len a1) (lt_len b1) yi yj ?_
      rcases hin i B a1 with ⟨cs, T, rfl, hr, _⟩ | ⟨ks, vs, bs, k, rfl, hr, h1, h2⟩
      · cases a2
      · have hc : ∃ C', h[μ j]? = some (some C') := by
          rcases hin j C b1 with ⟨cs, T, rfl, _, ⟨_, o, g2⟩ | ⟨g1, _⟩⟩ | ⟨ks, vs, bs, k, rfl, _, _, g2⟩
          · exact ⟨_, g2⟩
          · rw [yj] at g1; cases g1
          · exact ⟨_, g2⟩
        obtain ⟨C', hc⟩ := hc
        exact RH.inj _ _ ⟨_, h2, rfl, a3⟩ ⟨C', hc, b3⟩ he
    · rcases hin i B hB with ⟨cs, T, rfl, hr, _⟩ | ⟨ks, vs, bs, k, rfl, hr, _⟩
      · exact unders_raws _ _ hr
      · exact unders_raws _ _ hr
  have hargs : concs ρ (mvs μ nl args) = concs ρ0 args := (mvs_conc Mv (by rw [← hρ0]) args hna).symm
  rw [hargs]
  refine (hm _ w RH0 hua).mono fun e w' ⟨ρ1, k1, k2, RH1, F1, k5⟩ => ?_
  generalize hν : (fun i => if i < H.length then μ i else h.length + (i - H.length)) = ν
  have nlow : ∀ i, i < H.length → ν i = μ i := fun i hi => by rw [← hν]; simp [hi]
  have nhigh : ∀ i, H.length ≤ i → ν i = h.length + (i - H.length) := fun i hi => by rw [← hν]; simp; omega
  generalize hρ' : (⟨fun k => if k < h.length then ρ.blk k else ρ1.blk (H.length + (k - h.length)), ρ.unk⟩ : Ren) = ρ'
  have rlow : ∀ k, k < h.length → ρ'.blk k = ρ.blk k := fun k hk => by rw [← hρ']; simp [hk]
  have rhigh : ∀ k, h.length ≤ k → ρ'.blk k = ρ1.blk (H.length + (k - h.length)) := fun k hk => by rw [← hρ']; simp; omega
  have mlt : ∀ i, i < H.length → nl i = false → μ i < h.length := fun i hi hq => by
    obtain ⟨B, hB⟩ := hall i hi
    rcases hin i B hB with ⟨cs, T, rfl, _, ⟨_, o, h2⟩ | ⟨h1, _⟩⟩ | ⟨ks, vs, bs, k, rfl, _, _, h2⟩
    · exact lt_len h2
    · rw [hq] at h1; cases h1
    · exact lt_len h2
  have Mv' : Moved ν nl ρ' ρ1 := fun i => by
    rcases Nat.lt_or_ge i H.length with hi | hi
    · refine ⟨fun e => ?_, fun e => ?_⟩
      · rw [F1.ren i hi, b0n i e]; rfl
      · rw [nlow i hi, rlow _ (mlt i hi e), F1.ren i hi, b0y i e]
    · refine ⟨fun e => ?_, fun e => ?_⟩
      · rw [hnl i hi] at e; cases e
      · rw [nhigh i hi, rhigh _ (by omega)]
        congr 1
        omega
  have nolw : ∀ i, lim0 ≤ i → ¬ lw ρ0 H i := fun i hi ⟨B, a1, a2, _⟩ => by
    rw [hl0 i B hi a1] at a2
    cases a2
  have same : ∀ k, k < w.heap.size → w'.heap[k]? = w.heap[k]? := fun k hk => F1.blk k hk fun i q hi => absurd hi (nolw i q)
  have newB : ∀ (j : Nat) (B : Blk), N[j]? = some (some B) → (H ++ N)[H.length + j]? = some (some B) := fun j B hB => by
    rw [List.getElem?_append_right (by omega), Nat.add_sub_cancel_left]; exact hB
  have frs : ∀ (j : Nat) (B : Blk), N[j]? = some (some B) → (ρ1.blk (H.length + j)).nil = false → w.heap.size ≤ (ρ1.blk (H.length + j)).n := fun j B hB hn => by
    rcases F1.fresh (H.length + j) (by omega) ⟨B, newB j B hB, (hnew j B hB).1, hn⟩ with q | ⟨q, q1, q2, _⟩
    · exact q
    · exact absurd q2 (nolw q q1)
  have split : ∀ (k : Nat) (B : Blk), (h ++ N)[k]? = some (some B) → (k < h.length ∧ h[k]? = some (some B)) ∨ (h.length ≤ k ∧ N[k - h.length]? = some (some B)) := fun k B hB => by
    rcases Nat.lt_or_ge k h.length with q | q
    · rw [List.getElem?_append_left q] at hB; exact .inl ⟨q, hB⟩
    · rw [List.getElem?_append_right q] at hB; exact .inr ⟨q, hB⟩
  have rawU : ∀ (j : Nat) (B : Blk) (n : Nat), N[j]? = some (some B) → B.under n = true := fun j B n hB => by
    rcases (hnew j B hB).2 with ⟨cs, ty, own, rfl, hr⟩ | ⟨ks, vs, bs, k, rfl, hr⟩
    · exact unders_raws _ _ hr
    · exact unders_raws _ _ hr
  have hlen : (h ++ N).length = h.length + N.length := by simp
  refine ⟨ρ', by rw [← hρ'], by rw [k2, V.mv_conc (ρ := ρ') (ρ' := ρ1) Mv' (by rw [k1, ← hρ', ← hρ0]) v hnv], ⟨fun k B hB => ?_, fun x y hx hy he => ?_, fun k B hB => ?_, fun p hp => (by rw [hG] at hp; cases hp), by omega, fun i hi => by omega⟩, ⟨F1.os, F1.tape, F1.output, F1.size, fun k hk _ => same k hk, rlow, by omega, fun k hk hlwk => ?_, fun k hk hlwk => ?_⟩, ?_⟩
  · rcases split k B hB with ⟨q, h1⟩ | ⟨q, h1⟩
    · rw [rlow k q]
      exact (RH.cell k B h1).move (RH.sco k B h1) rlow fun hn => same _ (RH.lt ⟨B, h1, hn⟩)
    · rw [rhigh k q]
      have k1' := RH1.cell _ B (newB _ B h1)
      rcases (hnew _ B h1).2 with ⟨cs, ty, own, rfl, hr⟩ | ⟨ks, vs, bs, kk, rfl, hr⟩
      · refine ⟨k1'.nil, fun hn => ?_, k1'.room⟩
        obtain ⟨fr, q1, q2⟩ := k1'.row hn
        refine ⟨fr, ?_, q2⟩
        rw [q1, concs_same hr]
      · obtain ⟨z1, z2⟩ := k1'
        exact ⟨z1, by rw [z2, concs_same hr]⟩
  · obtain ⟨B, x1, x2, x3⟩ := hx
    obtain ⟨C, y1, y3⟩ := hy
    rcases split x B x1 with ⟨q, h1⟩ | ⟨q, h1⟩ <;> rcases split y C y1 with ⟨p, g1⟩ | ⟨p, g1⟩
    · rw [rlow x q, rlow y p] at he
      rw [rlow x q] at x3
      rw [rlow y p] at y3
      exact RH.inj x y ⟨B, h1, x2, x3⟩ ⟨C, g1, y3⟩ he
    · exfalso
      rw [rlow x q, rhigh y p] at he
      rw [rlow x q] at x3
      rw [rhigh y p] at y3
      have a := RH.lt ⟨B, h1, x3⟩
      have b := frs _ C g1 y3
      omega
    · exfalso
      rw [rhigh x q, rlow y p] at he
      rw [rhigh x q] at x3
      rw [rlow y p] at y3
      have a := RH.lt ⟨C, g1, y3⟩
      have b := frs _ B h1 x3
      omega
    · rw [rhigh x q, rhigh y p] at he
      rw [rhigh x q] at x3
      rw [rhigh y p] at y3
      have := RH1.inj _ _ ⟨B, newB _ B h1, x2, x3⟩ ⟨C, newB _ C g1, y3⟩ he
      omega
  · rcases split k B hB with ⟨q, h1⟩ | ⟨q, h1⟩
    · exact Blk.under_mono (by omega) B (RH.sco k B h1)
    · exact rawU _ B _ h1
  · obtain ⟨B, x1, x2, x3⟩ := hlwk
    rcases split k B x1 with ⟨q, h1⟩ | ⟨q, h1⟩
    · omega
    · rw [rhigh k q] at x3 ⊢
      exact .inl (frs _ B h1 x3)
  · obtain ⟨B, x1, x2, x3⟩ := hlwk
    rcases split k B x1 with ⟨q, h1⟩ | ⟨q, h1⟩
    · rw [rlow k q] at x3
      exact ⟨B, h1, x2, x3⟩
    · omega
  · have hHN : (H ++ N).length = H.length + N.length := by simp
    rw [hHN] at k5
    rw [hlen]
    refine V.mv_underN (fun b hb hq => ?_) v k5 hnv
    rcases Nat.lt_or_ge b H.length with q | q
    · rw [nlow b q]
      have := mlt b q hq
      omega
    · rw [nhigh b q]
      omega
theorem noWr_one {X : Option Blk} : ∀ (i : Nat) (B : Blk), 1 ≤ i → ([X] : Heap)[i]? = some (some B) → B.wr = false := fun i B h hB => by
  have := lt_len hB
  simp at this
  omega
theorem noWr_1 {cs : List V} {T : TypeId} : ∀ (i : Nat) (B : Blk), 0 ≤ i → ([some (.cells cs T .ro)] : Heap)[i]? = some (some B) → B.wr = false := fun i B _ h => by
  match i with
  | 0 =>
    simp only [List.getElem?_cons_zero, Option.some.injEq] at h
    subst h
    rfl
  | i + 1 => simp at h
theorem noWr_2 {cs ds : List V} {T U : TypeId} : ∀ (i : Nat) (B : Blk), 0 ≤ i → ([some (.cells cs T .ro), some (.cells ds U .ro)] : Heap)[i]? = some (some B) → B.wr = false := fun i B _ h => by
  match i with
  | 0 =>
    simp only [List.getElem?_cons_zero, Option.some.injEq] at h
    subst h
    rfl
  | 1 =>
    simp only [List.getElem?_cons_succ, List.getElem?_cons_zero, Option.some.injEq] at h
    subst h
    rfl
  | i + 2 => simp at h
theorem inj_1 {μ : Nat → Nat} {nl : Nat → Bool} : ∀ i j : Nat, i < 1 → j < 1 → nl i = false → nl j = false → μ i = μ j → i = j := fun i j h1 h2 _ _ _ => by omega
theorem new_map (ks : List Bool) (m : Mp) : ∀ (k : Nat) (X : Blk), ([some (mapB ks m)] : Heap)[k]? = some (some X) → X.wr = true ∧ RawB X := fun k X h => by
  match k with
  | 0 =>
    simp only [List.getElem?_cons_zero, Option.some.injEq] at h
    subst h
    exact ⟨rfl, .inr ⟨_, _, _, _, rfl, mvs_all ks m⟩⟩
  | k + 1 => simp at h
theorem new_none : ∀ (k : Nat) (X : Blk), ([] : Heap)[k]? = some (some X) → X.wr = true ∧ RawB X := fun k X h => by simp at h
theorem new_rowm (zs : List Int) (T : TypeId) (o : Own) (h1 : (Blk.cells (ints zs) T o).wr = true := by rfl) : ∀ (k : Nat) (X : Blk), ([some (Blk.cells (ints zs) T o)] : Heap)[k]? = some (some X) → X.wr = true ∧ RawB X := fun k X h => by
  match k with
  | 0 =>
    simp only [List.getElem?_cons_zero, Option.some.injEq] at h
    subst h
    exact ⟨h1, .inl ⟨_, _, _, rfl, ints_all zs⟩⟩
  | k + 1 => simp at h
end Go.Proofs.Ytcibaankajfhlaa.E2
end
section
set_option maxRecDepth 100000
namespace Go.Proofs.Ytcibaankajfhlaa
open Go Go.RowKit Go.Proofs.Ytcibaankajfhlaa.E2
def M.cmpI (x y : Int) : Int := Lib.compareInt x y
def M.or3 (x y z : Int) : Int := if x = 0 then (if y = 0 then z else y) else x
def M.ovr (a1 a2 a3 b1 b2 b3 : Int) : Bool := decide (0 < M.or3 (M.cmpI a1 b1) (M.cmpI a2 b2) (M.cmpI a3 b3))
theorem cmp_ok (x y : Int) : Ret cfx 103 [.raw (.int .i64 x), .raw (.int .i64 y)] (.raw (.int .i64 (M.cmpI x y))) := retx_conc (ret_cmp x y)
end Go.Proofs.Ytcibaankajfhlaa
end
section
set_option maxRecDepth 100000
namespace Go.Proofs.Ytcibaankajfhlaa
open Go Go.RowKit Go.Proofs.Ytcibaankajfhlaa.E2
def M.btw (x lo hi : Int) : Bool := decide (lo ≤ x) && decide (x ≤ hi)
def M.goodS (zs : List Int) (i : Nat) : Bool := !decide (at' zs (i * 4 + 1) < 0) && M.btw (at' zs (i * 4 + 2)) 0 1 && M.btw (at' zs (i * 4 + 3)) 1 26
def M.shE (zs : List Int) (n : Nat) : Int := if 400 < n then 6 else if (List.range n).all (M.goodS zs) then 0 else 2
def M.row4 (zs : List Int) (i : Nat) : List Int := [at' zs (i * 4), at' zs (i * 4 + 1), at' zs (i * 4 + 2), at' zs (i * 4 + 3)]
def M.inst (zs : List Int) (i : Nat) (r : List Int) : Bool := M.ovr (at' zs (i * 4 + 1)) (at' zs (i * 4 + 2)) (at' zs (i * 4 + 3)) (at' r 1) (at' r 2) (at' r 3)
def M.cnt (zs : List Int) : Nat → Mp
  | 0 => mnil
  | i + 1 => if mhas (M.cnt zs i) (at' zs (i * 4)) && !M.inst zs i (mget (M.cnt zs i) (at' zs (i * 4))) then M.cnt zs i else mput (M.cnt zs i) (at' zs (i * 4)) (M.row4 zs i)
def M.sizeB (n : Int) : Bool := decide (n = 1) || decide (n = 2) || decide (n = 4) || decide (n = 8) || decide (n = 16) || decide (n = 32) || decide (n = 64)
def M.slt (ss : List Int) : Nat → Mp
  | 0 => mnil
  | i + 1 => if at' ss i = -1 then M.slt ss i else mput (M.slt ss i) (at' ss i) [(i : Int)]
def M.byes (ss : List Int) : Nat → Int
  | 0 => 0
  | i + 1 => if at' ss i = -1 then M.byes ss i + 1 else M.byes ss i
def M.okS (ss : List Int) (i : Nat) : Bool := decide (at' ss i = -1) || M.btw (at' ss i) 0 1000
end Go.Proofs.Ytcibaankajfhlaa
end
section
set_option maxRecDepth 100000
namespace Go.Proofs.Ytcibaankajfhlaa
open Go Go.RowKit Go.Proofs.Ytcibaankajfhlaa.E2
theorem inj_ab (a b : Nat) (h : a ≠ b) : ∀ i j : Nat, i < 2 → j < 2 → (fun _ => false : Nat → Bool) i = false → (fun _ => false : Nat → Bool) j = false → (fun k => if k = 0 then a else b : Nat → Nat) i = (fun k => if k = 0 then a else b : Nat → Nat) j → i = j := fun i j h1 h2 _ _ q => by
  match i, j with
  | 0, 0 => rfl
  | 0, 1 => exact absurd q h
  | 1, 0 => exact absurd q.symm h
  | 1, 1 => rfl
  | i + 2, _ => omega
  | _, j + 2 => omega
end Go.Proofs.Ytcibaankajfhlaa
end
section
set_option maxRecDepth 100000
namespace Go.Proofs.Ytcibaankajfhlaa
open Go Go.RowKit Go.Proofs.Ytcibaankajfhlaa.E2
theorem ovr_p_1 (a0 a1 a2 a3 b0 b1 b2 b3 : Int) (f0 : ¬M.cmpI a1 b1 = 0) : Ret cfx 96 [.raw (.agg #[.int .i64 a0, .int .i64 a1, .int .i64 a2, .int .i64 a3]), .raw (.agg #[.int .i64 b0, .int .i64 b1, .int .i64 b2, .int .i64 b3])] (V.raw (.bool (decide (0 < M.cmpI a1 b1)))) := by
  exact fn_of cfx_mixed cfx_call cfx_base.1 cfx_base.2.1 cfx_base.2.2 (n := 40) (ans := [Ans.go, Ans.olds [], Ans.ret (iV (M.cmpI a1 b1)), Ans.ret (iV (M.cmpI a2 b2)), Ans.ret (iV (M.cmpI a3 b3)), Ans.go, Ans.br true, Ans.br true]) (cons := [(Ret cfx 103 [iV a1, iV b1] (iV (M.cmpI a1 b1))), (Ret cfx 103 [iV a2, iV b2] (iV (M.cmpI a2 b2))), (Ret cfx 103 [iV a3, iV b3] (iV (M.cmpI a3 b3))), (3 ≤ 9223372036854775807), (true = true), ((0 : Int) ≤ (0 : Int) ∧ (0 : Int) < (3 : Int)), ((!decide (M.cmpI a1 b1 = 0)) = true)]) (by kernel_rfl) rfl rfl
    ⟨(cmp_ok _ _), (cmp_ok _ _), (cmp_ok _ _), (by first | assumption | omega | (simp_all; done) | (simp_all; omega)), rfl, (by omega), (by first | assumption | exact flg (by first | assumption | omega) | (simp_all; done)), trivial⟩
theorem ovr_p_2 (a0 a1 a2 a3 b0 b1 b2 b3 : Int) (f0 : M.cmpI a1 b1 = 0) (f1 : ¬M.cmpI a2 b2 = 0) : Ret cfx 96 [.raw (.agg #[.int .i64 a0, .int .i64 a1, .int .i64 a2, .int .i64 a3]), .raw (.agg #[.int .i64 b0, .int .i64 b1, .int .i64 b2, .int .i64 b3])] (V.raw (.bool (decide (0 < M.cmpI a2 b2)))) := by
  exact fn_of cfx_mixed cfx_call cfx_base.1 cfx_base.2.1 cfx_base.2.2 (n := 40) (ans := [Ans.go, Ans.olds [], Ans.ret (iV (M.cmpI a1 b1)), Ans.ret (iV (M.cmpI a2 b2)), Ans.ret (iV (M.cmpI a3 b3)), Ans.go, Ans.br true, Ans.br false, Ans.br true, Ans.br true]) (cons := [(Ret cfx 103 [iV a1, iV b1] (iV (M.cmpI a1 b1))), (Ret cfx 103 [iV a2, iV b2] (iV (M.cmpI a2 b2))), (Ret cfx 103 [iV a3, iV b3] (iV (M.cmpI a3 b3))), (3 ≤ 9223372036854775807), (true = true), ((0 : Int) ≤ (0 : Int) ∧ (0 : Int) < (3 : Int)), ((!decide (M.cmpI a1 b1 = 0)) = false), (inR IntKind.i64 1), (true = true), ((0 : Int) ≤ (1 : Int) ∧ (1 : Int) < (3 : Int)), ((!decide (M.cmpI a2 b2 = 0)) = true)]) (by kernel_rfl) rfl rfl
    ⟨(cmp_ok _ _), (cmp_ok _ _), (cmp_ok _ _), (by first | assumption | omega | (simp_all; done) | (simp_all; omega)), rfl, (by omega), (by first | assumption | exact flg (by first | assumption | omega) | (simp_all; done)), inR_i64 (by omega) (by omega), rfl, (by omega), (by first | assumption | exact flg (by first | assumption | omega) | (simp_all; done)), trivial⟩
theorem ovr_p_3 (a0 a1 a2 a3 b0 b1 b2 b3 : Int) (f0 : M.cmpI a1 b1 = 0) (f1 : M.cmpI a2 b2 = 0) (f2 : ¬M.cmpI a3 b3 = 0) : Ret cfx 96 [.raw (.agg #[.int .i64 a0, .int .i64 a1, .int .i64 a2, .int .i64 a3]), .raw (.agg #[.int .i64 b0, .int .i64 b1, .int .i64 b2, .int .i64 b3])] (V.raw (.bool (decide (0 < M.cmpI a3 b3)))) := by
  exact fn_of cfx_mixed cfx_call cfx_base.1 cfx_base.2.1 cfx_base.2.2 (n := 40) (ans := [Ans.go, Ans.olds [], Ans.ret (iV (M.cmpI a1 b1)), Ans.ret (iV (M.cmpI a2 b2)), Ans.ret (iV (M.cmpI a3 b3)), Ans.go, Ans.br true, Ans.br false, Ans.br true, Ans.br false, Ans.br true, Ans.br true]) (cons := [(Ret cfx 103 [iV a1, iV b1] (iV (M.cmpI a1 b1))), (Ret cfx 103 [iV a2, iV b2] (iV (M.cmpI a2 b2))), (Ret cfx 103 [iV a3, iV b3] (iV (M.cmpI a3 b3))), (3 ≤ 9223372036854775807), (true = true), ((0 : Int) ≤ (0 : Int) ∧ (0 : Int) < (3 : Int)), ((!decide (M.cmpI a1 b1 = 0)) = false), (inR IntKind.i64 1), (true = true), ((0 : Int) ≤ (1 : Int) ∧ (1 : Int) < (3 : Int)), ((!decide (M.cmpI a2 b2 = 0)) = false), (inR IntKind.i64 2), (true = true), ((0 : Int) ≤ (2 : Int) ∧ (2 : Int) < (3 : Int)), ((!decide (M.cmpI a3 b3 = 0)) = true)]) (by kernel_rfl) rfl rfl
    ⟨(cmp_ok _ _), (cmp_ok _ _), (cmp_ok _ _), (by first | assumption | omega | (simp_all; done) | (simp_all; omega)), rfl, (by omega), (by first | assumption | exact flg (by first | assumption | omega) | (simp_all; done)), inR_i64 (by omega) (by omega), rfl, (by omega), (by first | assumption | exact flg (by first | assumption | omega) | (simp_all; done)), inR_i64 (by omega) (by omega), rfl, (by omega), (by first | assumption | exact flg (by first | assumption | omega) | (simp_all; done)), trivial⟩
theorem ovr_p_4 (a0 a1 a2 a3 b0 b1 b2 b3 : Int) (f0 : M.cmpI a1 b1 = 0) (f1 : M.cmpI a2 b2 = 0) (f2 : M.cmpI a3 b3 = 0) : Ret cfx 96 [.raw (.agg #[.int .i64 a0, .int .i64 a1, .int .i64 a2, .int .i64 a3]), .raw (.agg #[.int .i64 b0, .int .i64 b1, .int .i64 b2, .int .i64 b3])] (V.raw (.bool false)) := by
  exact fn_of cfx_mixed cfx_call cfx_base.1 cfx_base.2.1 cfx_base.2.2 (n := 40) (ans := [Ans.go, Ans.olds [], Ans.ret (iV (M.cmpI a1 b1)), Ans.ret (iV (M.cmpI a2 b2)), Ans.ret (iV (M.cmpI a3 b3)), Ans.go, Ans.br true, Ans.br false, Ans.br true, Ans.br false, Ans.br true, Ans.br false, Ans.br false]) (cons := [(Ret cfx 103 [iV a1, iV b1] (iV (M.cmpI a1 b1))), (Ret cfx 103 [iV a2, iV b2] (iV (M.cmpI a2 b2))), (Ret cfx 103 [iV a3, iV b3] (iV (M.cmpI a3 b3))), (3 ≤ 9223372036854775807), (true = true), ((0 : Int) ≤ (0 : Int) ∧ (0 : Int) < (3 : Int)), ((!decide (M.cmpI a1 b1 = 0)) = false), (inR IntKind.i64 1), (true = true), ((0 : Int) ≤ (1 : Int) ∧ (1 : Int) < (3 : Int)), ((!decide (M.cmpI a2 b2 = 0)) = false), (inR IntKind.i64 2), (true = true), ((0 : Int) ≤ (2 : Int) ∧ (2 : Int) < (3 : Int)), ((!decide (M.cmpI a3 b3 = 0)) = false), (inR IntKind.i64 3), (false = false)]) (by kernel_rfl) rfl rfl
    ⟨(cmp_ok _ _), (cmp_ok _ _), (cmp_ok _ _), (by first | assumption | omega | (simp_all; done) | (simp_all; omega)), rfl, (by omega), (by first | assumption | exact flg (by first | assumption | omega) | (simp_all; done)), inR_i64 (by omega) (by omega), rfl, (by omega), (by first | assumption | exact flg (by first | assumption | omega) | (simp_all; done)), inR_i64 (by omega) (by omega), rfl, (by omega), (by first | assumption | exact flg (by first | assumption | omega) | (simp_all; done)), inR_i64 (by omega) (by omega), rfl, trivial⟩
theorem ovr_p (a0 a1 a2 a3 b0 b1 b2 b3 : Int) : Ret cfx 96 [.raw (.agg #[.int .i64 a0, .int .i64 a1, .int .i64 a2, .int .i64 a3]), .raw (.agg #[.int .i64 b0, .int .i64 b1, .int .i64 b2, .int .i64 b3])] (.raw (.bool (M.ovr a1 a2 a3 b1 b2 b3))) := by
  by_cases f0 : ¬M.cmpI a1 b1 = 0
  ·
    have e : (.raw (.bool (M.ovr a1 a2 a3 b1 b2 b3)) : V) = V.raw (.bool (decide (0 < M.cmpI a1 b1))) := by simp_all [M.ovr, M.or3]
    rw [e]
    exact ovr_p_1 a0 a1 a2 a3 b0 b1 b2 b3 f0
  ·
    replace f0 : M.cmpI a1 b1 = 0 := by simpa using f0
    by_cases f1 : ¬M.cmpI a2 b2 = 0
    ·
      have e : (.raw (.bool (M.ovr a1 a2 a3 b1 b2 b3)) : V) = V.raw (.bool (decide (0 < M.cmpI a2 b2))) := by simp_all [M.ovr, M.or3]
      rw [e]
      exact ovr_p_2 a0 a1 a2 a3 b0 b1 b2 b3 f0 f1
    ·
      replace f1 : M.cmpI a2 b2 = 0 := by simpa using f1
      by_cases f2 : ¬M.cmpI a3 b3 = 0
      ·
        have e : (.raw (.bool (M.ovr a1 a2 a3 b1 b2 b3)) : V) = V.raw (.bool (decide (0 < M.cmpI a3 b3))) := by simp_all [M.ovr, M.or3]
        rw [e]
        exact ovr_p_3 a0 a1 a2 a3 b0 b1 b2 b3 f0 f1 f2
      ·
        replace f2 : M.cmpI a3 b3 = 0 := by simpa using f2
        have e : (.raw (.bool (M.ovr a1 a2 a3 b1 b2 b3)) : V) = V.raw (.bool false) := by simp_all [M.ovr, M.or3]
        rw [e]
        exact ovr_p_4 a0 a1 a2 a3 b0 b1 b2 b3 f0 f1 f2
end Go.Proofs.Ytcibaankajfhlaa
end
section
set_option maxRecDepth 100000
namespace Go.Proofs.Ytcibaankajfhlaa
open Go Go.RowKit Go.Proofs.Ytcibaankajfhlaa.E2
def cnt_T (zs : List Int) (n : Nat) (TS : Nat) (i : Int) (m : Mp) : List V := [.slo 0 n, uV, V.raw (Value.map none), V.mp 1, uV, .any 5, .any 6, .any 7, V.mp 1, .slo 0 n, iV (↑n : Int), iV i, .any 12, .any 13, .any 14, .any 15, .any 16, .any 17, .any 18, .any 19, .any 20, .any 21, .any 22, .any 23, .any 24, .any 25, .any 26, .any 27, .any 28, .any 29, .any 30, .any 31, .any 32, .any 33, uV]
def cnt_H (zs : List Int) (n : Nat) (TS : Nat) (i : Int) (m : Mp) : Heap := [some (.cells (ints zs) TS .ro), some (mapB [false, false, false, false] m)]
theorem cnt_1 (zs : List Int) (n : Nat) (TS : Nat) (i : Int) (m : Mp) (hi0 : 0 ≤ i) (hi1 : i ≤ 1000) (hn : n ≤ 1000) (hz : zs.length = n * 4) (f0 : i < (↑n : Int)) (f1 : mhas m (at' zs (i.toNat * 4)) = true) (f2 : M.ovr (at' zs (i.toNat * 4 + 1)) (at' zs (i.toNat * 4 + 2)) (at' zs (i.toNat * 4 + 3)) (at' (mget m (at' zs (i.toNat * 4))) 1) (at' (mget m (at' zs (i.toNat * 4))) 2) (at' (mget m (at' zs (i.toNat * 4))) 3) = true) : Runs cfx 0 2 none (loopOf cfx.P 60 0) (cnt_T zs n TS i m) (cnt_H zs n TS i m) (Ex.normal) (cnt_T zs n TS (i + 1) (mput m (at' zs (i.toNat * 4)) [at' zs (i.toNat * 4), at' zs (i.toNat * 4 + 1), at' zs (i.toNat * 4 + 2), at' zs (i.toNat * 4 + 3)])) (cnt_H zs n TS (i + 1) (mput m (at' zs (i.toNat * 4)) [at' zs (i.toNat * 4), at' zs (i.toNat * 4 + 1), at' zs (i.toNat * 4 + 2), at' zs (i.toNat * 4 + 3)])) := by
  refine Runs.post (t1 := [.slo 0 n, uV, V.raw (Value.map none), V.mp 1, uV, .ptr 2 0, .ptr 3 0, V.raw (.bool true), V.mp 1, .slo 0 n, iV (↑n : Int), iV (i + 1), V.raw (.bool (decide (i < (↑n : Int)))), V.ptr 0 (i.toNat * 4), (rowV zs (i.toNat * 4) 4), V.raw (.tuple { toList := [.agg { toList := [.int .i64 (at' (mget m (at' zs (i.toNat * 4))) 0), .int .i64 (at' (mget m (at' zs (i.toNat * 4))) 1), .int .i64 (at' (mget m (at' zs (i.toNat * 4))) 2), .int .i64 (at' (mget m (at' zs (i.toNat * 4))) 3)] }, .bool true] }), V.mp 1, .ptr 2 0, iV (at' zs (i.toNat * 4)), V.raw (.tuple { toList := [.agg { toList := [.int .i64 (at' (mget m (at' zs (i.toNat * 4))) 0), .int .i64 (at' (mget m (at' zs (i.toNat * 4))) 1), .int .i64 (at' (mget m (at' zs (i.toNat * 4))) 2), .int .i64 (at' (mget m (at' zs (i.toNat * 4))) 3)] }, .bool true] }), V.raw (.agg { toList := [.int .i64 (at' (mget m (at' zs (i.toNat * 4))) 0), .int .i64 (at' (mget m (at' zs (i.toNat * 4))) 1), .int .i64 (at' (mget m (at' zs (i.toNat * 4))) 2), .int .i64 (at' (mget m (at' zs (i.toNat * 4))) 3)] }), V.raw (.bool true), V.raw (.bool true), V.raw (.bool false), V.lit false, (rowV zs (i.toNat * 4) 4), V.raw (.agg { toList := [.int .i64 (at' (mget m (at' zs (i.toNat * 4))) 0), .int .i64 (at' (mget m (at' zs (i.toNat * 4))) 1), .int .i64 (at' (mget m (at' zs (i.toNat * 4))) 2), .int .i64 (at' (mget m (at' zs (i.toNat * 4))) 3)] }), V.raw (.bool (M.ovr (at' zs (i.toNat * 4 + 1)) (at' zs (i.toNat * 4 + 2)) (at' zs (i.toNat * 4 + 3)) (at' (mget m (at' zs (i.toNat * 4))) 1) (at' (mget m (at' zs (i.toNat * 4))) 2) (at' (mget m (at' zs (i.toNat * 4))) 3))), V.raw (.bool (M.ovr (at' zs (i.toNat * 4 + 1)) (at' zs (i.toNat * 4 + 2)) (at' zs (i.toNat * 4 + 3)) (at' (mget m (at' zs (i.toNat * 4))) 1) (at' (mget m (at' zs (i.toNat * 4))) 2) (at' (mget m (at' zs (i.toNat * 4))) 3))), V.mp 1, .ptr 2 0, iV (at' zs (i.toNat * 4)), (rowV zs (i.toNat * 4) 4), iV (i + 1), uV]) (h1 := [some (.cells (ints zs) TS .ro), some (mapB [false, false, false, false] (mput m (at' zs (i.toNat * 4)) [at' zs (i.toNat * 4), at' zs (i.toNat * 4 + 1), at' zs (i.toNat * 4 + 2), at' zs (i.toNat * 4 + 3)])), some (.cells [iV (at' zs (i.toNat * 4)), iV (at' zs (i.toNat * 4 + 1)), iV (at' zs (i.toNat * 4 + 2)), iV (at' zs (i.toNat * 4 + 3))] 36 .rw), some (.cells [iV (at' (mget m (at' zs (i.toNat * 4))) 0), iV (at' (mget m (at' zs (i.toNat * 4))) 1), iV (at' (mget m (at' zs (i.toNat * 4))) 2), iV (at' (mget m (at' zs (i.toNat * 4))) 3)] 36 .rw)]) (body_of cfx_mixed cfx_call (Nat.zero_le _) (rnd := none) (fi := 0) (k := 0) (n := 40) (n0 := 2) (ans := [Ans.br true, Ans.val 0 ((rowV zs (i.toNat * 4) 4)), Ans.key (V.tup [V.lit true, V.raw (.agg { toList := [.int .i64 (at' (mget m (at' zs (i.toNat * 4))) 0), .int .i64 (at' (mget m (at' zs (i.toNat * 4))) 1), .int .i64 (at' (mget m (at' zs (i.toNat * 4))) 2), .int .i64 (at' (mget m (at' zs (i.toNat * 4))) 3)] })]), Ans.br false, Ans.ret (V.raw (.bool (M.ovr (at' zs (i.toNat * 4 + 1)) (at' zs (i.toNat * 4 + 2)) (at' zs (i.toNat * 4 + 3)) (at' (mget m (at' zs (i.toNat * 4))) 1) (at' (mget m (at' zs (i.toNat * 4))) 2) (at' (mget m (at' zs (i.toNat * 4))) 3)))), Ans.br false, Ans.br true, ansM [false, false, false, false] (mput m (at' zs (i.toNat * 4)) [at' zs (i.toNat * 4), at' zs (i.toNat * 4 + 1), at' zs (i.toNat * 4 + 2), at' zs (i.toNat * 4 + 3)])]) (cons := [(decide (i < (↑n : Int)) = true), (0 ≤ i ∧ i < (↑n : Int)), (loadRow cfx 36 (ints zs) (i.toNat * 4) = some ((rowV zs (i.toNat * 4) 4))), ((mks m).length = (mvs' ([false, false, false, false] : List Bool) m).length ∧ (mks m).length = (mbs m).length), (getM cfx 3 (mks m) (mvs' ([false, false, false, false] : List Bool) m) (Value.int IntKind.i64 (at' zs (i.toNat * 4))) = some (some (V.raw (.agg { toList := [.int .i64 (at' (mget m (at' zs (i.toNat * 4))) 0), .int .i64 (at' (mget m (at' zs (i.toNat * 4))) 1), .int .i64 (at' (mget m (at' zs (i.toNat * 4))) 2), .int .i64 (at' (mget m (at' zs (i.toNat * 4))) 3)] })))), (false = false), (Ret cfx 96 [V.raw (.agg { toList := [.int .i64 (at' zs (i.toNat * 4)), .int .i64 (at' zs (i.toNat * 4 + 1)), .int .i64 (at' zs (i.toNat * 4 + 2)), .int .i64 (at' zs (i.toNat * 4 + 3))] }), V.raw (.agg { toList := [.int .i64 (at' (mget m (at' zs (i.toNat * 4))) 0), .int .i64 (at' (mget m (at' zs (i.toNat * 4))) 1), .int .i64 (at' (mget m (at' zs (i.toNat * 4))) 2), .int .i64 (at' (mget m (at' zs (i.toNat * 4))) 3)] })] (V.raw (.bool (M.ovr (at' zs (i.toNat * 4 + 1)) (at' zs (i.toNat * 4 + 2)) (at' zs (i.toNat * 4 + 3)) (at' (mget m (at' zs (i.toNat * 4))) 1) (at' (mget m (at' zs (i.toNat * 4))) 2) (at' (mget m (at' zs (i.toNat * 4))) 3))))), (false = false), (M.ovr (at' zs (i.toNat * 4 + 1)) (at' zs (i.toNat * 4 + 2)) (at' zs (i.toNat * 4 + 3)) (at' (mget m (at' zs (i.toNat * 4))) 1) (at' (mget m (at' zs (i.toNat * 4))) 2) (at' (mget m (at' zs (i.toNat * 4))) 3) = true), ((mks m).length = (mvs' ([false, false, false, false] : List Bool) m).length ∧ (mks m).length = (mbs m).length), (putM cfx 3 (mks m) (mvs' ([false, false, false, false] : List Bool) m) (mbs m) (Mp.clk m) (Value.int IntKind.i64 (at' zs (i.toNat * 4))) ((rowV zs (i.toNat * 4) 4)) = some (mks (mput m (at' zs (i.toNat * 4)) [at' zs (i.toNat * 4), at' zs (i.toNat * 4 + 1), at' zs (i.toNat * 4 + 2), at' zs (i.toNat * 4 + 3)]), mvs' ([false, false, false, false] : List Bool) (mput m (at' zs (i.toNat * 4)) [at' zs (i.toNat * 4), at' zs (i.toNat * 4 + 1), at' zs (i.toNat * 4 + 2), at' zs (i.toNat * 4 + 3)]), mbs (mput m (at' zs (i.toNat * 4)) [at' zs (i.toNat * 4), at' zs (i.toNat * 4 + 1), at' zs (i.toNat * 4 + 2), at' zs (i.toNat * 4 + 3)]), Mp.clk (mput m (at' zs (i.toNat * 4)) [at' zs (i.toNat * 4), at' zs (i.toNat * 4 + 1), at' zs (i.toNat * 4 + 2), at' zs (i.toNat * 4 + 3)]))), (inR IntKind.i64 (i + 1))]) (by kernel_rfl)
    ⟨(by first | omega | (simp; omega) | (simp_all; omega)), (by omega), (load_agg 4 (by kernel_rfl) (by kernel_rfl) (Nat.le_of_ble_eq_true rfl) (by omega)), mp_len, (map_get ⟨by kernel_rfl, by kernel_rfl, by kernel_rfl⟩ (by first | assumption | simp_all)), rfl, (ovr_p _ _ _ _ _ _ _ _), rfl, (by first | assumption | exact flg (by first | assumption | omega) | (simp_all; done)), mp_len, (map_put (kt := 3) (k := (at' zs (i.toNat * 4))) (ks := ([false, false, false, false] : List Bool)) (m := m) ⟨by kernel_rfl, by kernel_rfl, by kernel_rfl⟩ [at' zs (i.toNat * 4), at' zs (i.toNat * 4 + 1), at' zs (i.toNat * 4 + 2), at' zs (i.toNat * 4 + 3)]), inR_i64 (by omega) (by omega), trivial⟩ (Nat.le_of_ble_eq_true rfl) (Nat.le_of_ble_eq_true rfl) noRnd (noRanges (by kernel_rfl))) (fun RT RH => reshape2 (lim := 0) 2 cfx_G rfl [] (by kernel_rfl) (by kernel_rfl) (by exact (ents_raw (ints_all _) rfl rfl (ents_map rfl rfl (ents_nil)))) RT RH)
theorem cnt_2 (zs : List Int) (n : Nat) (TS : Nat) (i : Int) (m : Mp) (hi0 : 0 ≤ i) (hi1 : i ≤ 1000) (hn : n ≤ 1000) (hz : zs.length = n * 4) (f0 : i < (↑n : Int)) (f1 : mhas m (at' zs (i.toNat * 4)) = true) (f2 : M.ovr (at' zs (i.toNat * 4 + 1)) (at' zs (i.toNat * 4 + 2)) (at' zs (i.toNat * 4 + 3)) (at' (mget m (at' zs (i.toNat * 4))) 1) (at' (mget m (at' zs (i.toNat * 4))) 2) (at' (mget m (at' zs (i.toNat * 4))) 3) = false) : Runs cfx 0 2 none (loopOf cfx.P 60 0) (cnt_T zs n TS i m) (cnt_H zs n TS i m) (Ex.normal) (cnt_T zs n TS (i + 1) m) (cnt_H zs n TS (i + 1) m) := by
  refine Runs.post (t1 := [.slo 0 n, uV, V.raw (Value.map none), V.mp 1, uV, .ptr 2 0, .ptr 3 0, V.raw (.bool true), V.mp 1, .slo 0 n, iV (↑n : Int), iV (i + 1), V.raw (.bool (decide (i < (↑n : Int)))), V.ptr 0 (i.toNat * 4), (rowV zs (i.toNat * 4) 4), V.raw (.tuple { toList := [.agg { toList := [.int .i64 (at' (mget m (at' zs (i.toNat * 4))) 0), .int .i64 (at' (mget m (at' zs (i.toNat * 4))) 1), .int .i64 (at' (mget m (at' zs (i.toNat * 4))) 2), .int .i64 (at' (mget m (at' zs (i.toNat * 4))) 3)] }, .bool true] }), V.mp 1, .ptr 2 0, iV (at' zs (i.toNat * 4)), V.raw (.tuple { toList := [.agg { toList := [.int .i64 (at' (mget m (at' zs (i.toNat * 4))) 0), .int .i64 (at' (mget m (at' zs (i.toNat * 4))) 1), .int .i64 (at' (mget m (at' zs (i.toNat * 4))) 2), .int .i64 (at' (mget m (at' zs (i.toNat * 4))) 3)] }, .bool true] }), V.raw (.agg { toList := [.int .i64 (at' (mget m (at' zs (i.toNat * 4))) 0), .int .i64 (at' (mget m (at' zs (i.toNat * 4))) 1), .int .i64 (at' (mget m (at' zs (i.toNat * 4))) 2), .int .i64 (at' (mget m (at' zs (i.toNat * 4))) 3)] }), V.raw (.bool true), V.raw (.bool true), V.raw (.bool false), V.lit false, (rowV zs (i.toNat * 4) 4), V.raw (.agg { toList := [.int .i64 (at' (mget m (at' zs (i.toNat * 4))) 0), .int .i64 (at' (mget m (at' zs (i.toNat * 4))) 1), .int .i64 (at' (mget m (at' zs (i.toNat * 4))) 2), .int .i64 (at' (mget m (at' zs (i.toNat * 4))) 3)] }), V.raw (.bool (M.ovr (at' zs (i.toNat * 4 + 1)) (at' zs (i.toNat * 4 + 2)) (at' zs (i.toNat * 4 + 3)) (at' (mget m (at' zs (i.toNat * 4))) 1) (at' (mget m (at' zs (i.toNat * 4))) 2) (at' (mget m (at' zs (i.toNat * 4))) 3))), V.raw (.bool (M.ovr (at' zs (i.toNat * 4 + 1)) (at' zs (i.toNat * 4 + 2)) (at' zs (i.toNat * 4 + 3)) (at' (mget m (at' zs (i.toNat * 4))) 1) (at' (mget m (at' zs (i.toNat * 4))) 2) (at' (mget m (at' zs (i.toNat * 4))) 3))), .any 29, .any 30, .any 31, .any 32, iV (i + 1), uV]) (h1 := [some (.cells (ints zs) TS .ro), some (mapB [false, false, false, false] m), some (.cells [iV (at' zs (i.toNat * 4)), iV (at' zs (i.toNat * 4 + 1)), iV (at' zs (i.toNat * 4 + 2)), iV (at' zs (i.toNat * 4 + 3))] 36 .rw), some (.cells [iV (at' (mget m (at' zs (i.toNat * 4))) 0), iV (at' (mget m (at' zs (i.toNat * 4))) 1), iV (at' (mget m (at' zs (i.toNat * 4))) 2), iV (at' (mget m (at' zs (i.toNat * 4))) 3)] 36 .rw)]) (body_of cfx_mixed cfx_call (Nat.zero_le _) (rnd := none) (fi := 0) (k := 0) (n := 40) (n0 := 2) (ans := [Ans.br true, Ans.val 0 ((rowV zs (i.toNat * 4) 4)), Ans.key (V.tup [V.lit true, V.raw (.agg { toList := [.int .i64 (at' (mget m (at' zs (i.toNat * 4))) 0), .int .i64 (at' (mget m (at' zs (i.toNat * 4))) 1), .int .i64 (at' (mget m (at' zs (i.toNat * 4))) 2), .int .i64 (at' (mget m (at' zs (i.toNat * 4))) 3)] })]), Ans.br false, Ans.ret (V.raw (.bool (M.ovr (at' zs (i.toNat * 4 + 1)) (at' zs (i.toNat * 4 + 2)) (at' zs (i.toNat * 4 + 3)) (at' (mget m (at' zs (i.toNat * 4))) 1) (at' (mget m (at' zs (i.toNat * 4))) 2) (at' (mget m (at' zs (i.toNat * 4))) 3)))), Ans.br false, Ans.br false]) (cons := [(decide (i < (↑n : Int)) = true), (0 ≤ i ∧ i < (↑n : Int)), (loadRow cfx 36 (ints zs) (i.toNat * 4) = some ((rowV zs (i.toNat * 4) 4))), ((mks m).length = (mvs' ([false, false, false, false] : List Bool) m).length ∧ (mks m).length = (mbs m).length), (getM cfx 3 (mks m) (mvs' ([false, false, false, false] : List Bool) m) (Value.int IntKind.i64 (at' zs (i.toNat * 4))) = some (some (V.raw (.agg { toList := [.int .i64 (at' (mget m (at' zs (i.toNat * 4))) 0), .int .i64 (at' (mget m (at' zs (i.toNat * 4))) 1), .int .i64 (at' (mget m (at' zs (i.toNat * 4))) 2), .int .i64 (at' (mget m (at' zs (i.toNat * 4))) 3)] })))), (false = false), (Ret cfx 96 [V.raw (.agg { toList := [.int .i64 (at' zs (i.toNat * 4)), .int .i64 (at' zs (i.toNat * 4 + 1)), .int .i64 (at' zs (i.toNat * 4 + 2)), .int .i64 (at' zs (i.toNat * 4 + 3))] }), V.raw (.agg { toList := [.int .i64 (at' (mget m (at' zs (i.toNat * 4))) 0), .int .i64 (at' (mget m (at' zs (i.toNat * 4))) 1), .int .i64 (at' (mget m (at' zs (i.toNat * 4))) 2), .int .i64 (at' (mget m (at' zs (i.toNat * 4))) 3)] })] (V.raw (.bool (M.ovr (at' zs (i.toNat * 4 + 1)) (at' zs (i.toNat * 4 + 2)) (at' zs (i.toNat * 4 + 3)) (at' (mget m (at' zs (i.toNat * 4))) 1) (at' (mget m (at' zs (i.toNat * 4))) 2) (at' (mget m (at' zs (i.toNat * 4))) 3))))), (false = false), (M.ovr (at' zs (i.toNat * 4 + 1)) (at' zs (i.toNat * 4 + 2)) (at' zs (i.toNat * 4 + 3)) (at' (mget m (at' zs (i.toNat * 4))) 1) (at' (mget m (at' zs (i.toNat * 4))) 2) (at' (mget m (at' zs (i.toNat * 4))) 3) = false), (inR IntKind.i64 (i + 1))]) (by kernel_rfl)
    ⟨(by first | omega | (simp; omega) | (simp_all; omega)), (by omega), (load_agg 4 (by kernel_rfl) (by kernel_rfl) (Nat.le_of_ble_eq_true rfl) (by omega)), mp_len, (map_get ⟨by kernel_rfl, by kernel_rfl, by kernel_rfl⟩ (by first | assumption | simp_all)), rfl, (ovr_p _ _ _ _ _ _ _ _), rfl, (by first | assumption | exact flg (by first | assumption | omega) | (simp_all; done)), inR_i64 (by omega) (by omega), trivial⟩ (Nat.le_of_ble_eq_true rfl) (Nat.le_of_ble_eq_true rfl) noRnd (noRanges (by kernel_rfl))) (fun RT RH => reshape2 (lim := 0) 2 cfx_G rfl [] (by kernel_rfl) (by kernel_rfl) (by exact (ents_raw (ints_all _) rfl rfl (ents_map rfl rfl (ents_nil)))) RT RH)
theorem cnt_3 (zs : List Int) (n : Nat) (TS : Nat) (i : Int) (m : Mp) (hi0 : 0 ≤ i) (hi1 : i ≤ 1000) (hn : n ≤ 1000) (hz : zs.length = n * 4) (f0 : i < (↑n : Int)) (f1 : mhas m (at' zs (i.toNat * 4)) = false) : Runs cfx 0 2 none (loopOf cfx.P 60 0) (cnt_T zs n TS i m) (cnt_H zs n TS i m) (Ex.normal) (cnt_T zs n TS (i + 1) (mput m (at' zs (i.toNat * 4)) [at' zs (i.toNat * 4), at' zs (i.toNat * 4 + 1), at' zs (i.toNat * 4 + 2), at' zs (i.toNat * 4 + 3)])) (cnt_H zs n TS (i + 1) (mput m (at' zs (i.toNat * 4)) [at' zs (i.toNat * 4), at' zs (i.toNat * 4 + 1), at' zs (i.toNat * 4 + 2), at' zs (i.toNat * 4 + 3)])) := by
  refine Runs.post (t1 := [.slo 0 n, uV, V.raw (Value.map none), V.mp 1, uV, .ptr 2 0, .ptr 3 0, V.raw (.bool false), V.mp 1, .slo 0 n, iV (↑n : Int), iV (i + 1), V.raw (.bool (decide (i < (↑n : Int)))), V.ptr 0 (i.toNat * 4), (rowV zs (i.toNat * 4) 4), V.raw (.tuple { toList := [.agg { toList := [.int .i64 0, .int .i64 0, .int .i64 0, .int .i64 0] }, .bool false] }), V.mp 1, .ptr 2 0, iV (at' zs (i.toNat * 4)), V.raw (.tuple { toList := [.agg { toList := [.int .i64 0, .int .i64 0, .int .i64 0, .int .i64 0] }, .bool false] }), V.raw (.agg { toList := [.int .i64 0, .int .i64 0, .int .i64 0, .int .i64 0] }), V.raw (.bool false), V.raw (.bool false), V.raw (.bool true), V.lit true, uV, uV, uV, V.raw (.bool true), V.mp 1, .ptr 2 0, iV (at' zs (i.toNat * 4)), (rowV zs (i.toNat * 4) 4), iV (i + 1), uV]) (h1 := [some (.cells (ints zs) TS .ro), some (mapB [false, false, false, false] (mput m (at' zs (i.toNat * 4)) [at' zs (i.toNat * 4), at' zs (i.toNat * 4 + 1), at' zs (i.toNat * 4 + 2), at' zs (i.toNat * 4 + 3)])), some (.cells [iV (at' zs (i.toNat * 4)), iV (at' zs (i.toNat * 4 + 1)), iV (at' zs (i.toNat * 4 + 2)), iV (at' zs (i.toNat * 4 + 3))] 36 .rw), some (.cells [iV 0, iV 0, iV 0, iV 0] 36 .rw)]) (body_of cfx_mixed cfx_call (Nat.zero_le _) (rnd := none) (fi := 0) (k := 0) (n := 40) (n0 := 2) (ans := [Ans.br true, Ans.val 0 ((rowV zs (i.toNat * 4) 4)), Ans.key (V.lit false), Ans.br true, Ans.br true, Ans.br true, ansM [false, false, false, false] (mput m (at' zs (i.toNat * 4)) [at' zs (i.toNat * 4), at' zs (i.toNat * 4 + 1), at' zs (i.toNat * 4 + 2), at' zs (i.toNat * 4 + 3)])]) (cons := [(decide (i < (↑n : Int)) = true), (0 ≤ i ∧ i < (↑n : Int)), (loadRow cfx 36 (ints zs) (i.toNat * 4) = some ((rowV zs (i.toNat * 4) 4))), ((mks m).length = (mvs' ([false, false, false, false] : List Bool) m).length ∧ (mks m).length = (mbs m).length), (getM cfx 3 (mks m) (mvs' ([false, false, false, false] : List Bool) m) (Value.int IntKind.i64 (at' zs (i.toNat * 4))) = some none), (true = true), (true = true), (true = true), ((mks m).length = (mvs' ([false, false, false, false] : List Bool) m).length ∧ (mks m).length = (mbs m).length), (putM cfx 3 (mks m) (mvs' ([false, false, false, false] : List Bool) m) (mbs m) (Mp.clk m) (Value.int IntKind.i64 (at' zs (i.toNat * 4))) ((rowV zs (i.toNat * 4) 4)) = some (mks (mput m (at' zs (i.toNat * 4)) [at' zs (i.toNat * 4), at' zs (i.toNat * 4 + 1), at' zs (i.toNat * 4 + 2), at' zs (i.toNat * 4 + 3)]), mvs' ([false, false, false, false] : List Bool) (mput m (at' zs (i.toNat * 4)) [at' zs (i.toNat * 4), at' zs (i.toNat * 4 + 1), at' zs (i.toNat * 4 + 2), at' zs (i.toNat * 4 + 3)]), mbs (mput m (at' zs (i.toNat * 4)) [at' zs (i.toNat * 4), at' zs (i.toNat * 4 + 1), at' zs (i.toNat * 4 + 2), at' zs (i.toNat * 4 + 3)]), Mp.clk (mput m (at' zs (i.toNat * 4)) [at' zs (i.toNat * 4), at' zs (i.toNat * 4 + 1), at' zs (i.toNat * 4 + 2), at' zs (i.toNat * 4 + 3)]))), (inR IntKind.i64 (i + 1))]) (by kernel_rfl)
    ⟨(by first | omega | (simp; omega) | (simp_all; omega)), (by omega), (load_agg 4 (by kernel_rfl) (by kernel_rfl) (Nat.le_of_ble_eq_true rfl) (by omega)), mp_len, (map_no ⟨by kernel_rfl, by kernel_rfl, by kernel_rfl⟩ (by first | assumption | simp_all)), rfl, rfl, rfl, mp_len, (map_put (kt := 3) (k := (at' zs (i.toNat * 4))) (ks := ([false, false, false, false] : List Bool)) (m := m) ⟨by kernel_rfl, by kernel_rfl, by kernel_rfl⟩ [at' zs (i.toNat * 4), at' zs (i.toNat * 4 + 1), at' zs (i.toNat * 4 + 2), at' zs (i.toNat * 4 + 3)]), inR_i64 (by omega) (by omega), trivial⟩ (Nat.le_of_ble_eq_true rfl) (Nat.le_of_ble_eq_true rfl) noRnd (noRanges (by kernel_rfl))) (fun RT RH => reshape2 (lim := 0) 2 cfx_G rfl [] (by kernel_rfl) (by kernel_rfl) (by exact (ents_raw (ints_all _) rfl rfl (ents_map rfl rfl (ents_nil)))) RT RH)
def cnt_T4 (zs : List Int) (n : Nat) (TS : Nat) (i : Int) (m : Mp) : List V := [.slo 0 n, uV, V.raw (Value.map none), V.mp 1, uV, .any 5, .any 6, .any 7, V.mp 1, .slo 0 n, iV (↑n : Int), iV i, .any 12, .any 13, .any 14, .any 15, .any 16, .any 17, .any 18, .any 19, .any 20, .any 21, .any 22, .any 23, .any 24, .any 25, .any 26, .any 27, .any 28, .any 29, .any 30, .any 31, .any 32, .any 33, uV]
def cnt_H4 (zs : List Int) (n : Nat) (TS : Nat) (i : Int) (m : Mp) : Heap := [some (.cells (ints zs) TS .ro), some (mapB [false, false, false, false] m)]
theorem cnt_4 (zs : List Int) (n : Nat) (TS : Nat) (i : Int) (m : Mp) (hi0 : 0 ≤ i) (hi1 : i ≤ 1000) (hn : n ≤ 1000) (hz : zs.length = n * 4) (f0 : ¬i < (↑n : Int)) : Runs cfx 0 2 none (loopOf cfx.P 60 0) (cnt_T zs n TS i m) (cnt_H zs n TS i m) (Ex.exit 0) (cnt_T4 zs n TS i m) (cnt_H4 zs n TS i m) := by
  refine Runs.post (t1 := [.slo 0 n, uV, V.raw (Value.map none), V.mp 1, uV, .any 5, .any 6, .any 7, V.mp 1, .slo 0 n, iV (↑n : Int), iV i, V.raw (.bool (decide (i < (↑n : Int)))), .any 13, .any 14, .any 15, .any 16, .any 17, .any 18, .any 19, .any 20, .any 21, .any 22, .any 23, .any 24, .any 25, .any 26, .any 27, .any 28, .any 29, .any 30, .any 31, .any 32, .any 33, uV]) (h1 := [some (.cells (ints zs) TS .ro), some (mapB [false, false, false, false] m)]) (body_of cfx_mixed cfx_call (Nat.zero_le _) (rnd := none) (fi := 0) (k := 0) (n := 40) (n0 := 2) (ans := [Ans.br false]) (cons := [(decide (i < (↑n : Int)) = false)]) (by kernel_rfl)
    ⟨(by first | omega | (simp; omega) | (simp_all; omega)), trivial⟩ (Nat.le_of_ble_eq_true rfl) (Nat.le_of_ble_eq_true rfl) noRnd (noRanges (by kernel_rfl))) (fun RT RH => reshape2 (lim := 0) 2 cfx_G rfl [] (by kernel_rfl) (by kernel_rfl) (by exact (ents_raw (ints_all _) rfl rfl (ents_map rfl rfl (ents_nil)))) RT RH)
end Go.Proofs.Ytcibaankajfhlaa
end
section
set_option maxRecDepth 100000
namespace Go.Proofs.Ytcibaankajfhlaa
open Go Go.RowKit Go.Proofs.Ytcibaankajfhlaa.E2
theorem btw_p_1 (x lo hi : Int) (f0 : lo ≤ x) : Ret cfx 51 [.raw (.int .i64 x), .raw (.int .i64 lo), .raw (.int .i64 hi)] (V.raw (.bool (decide (x ≤ hi)))) := by
  exact fn_of cfx_mixed cfx_call cfx_base.1 cfx_base.2.1 cfx_base.2.2 (n := 40) (ans := [Ans.go, Ans.br true, Ans.br true]) (cons := [(decide (lo ≤ x) = true), (true = true)]) (by kernel_rfl) rfl rfl
    ⟨(by first | assumption | exact flg (by first | assumption | omega) | (simp_all; done)), rfl, trivial⟩
theorem btw_p_2 (x lo hi : Int) (f0 : ¬lo ≤ x) : Ret cfx 51 [.raw (.int .i64 x), .raw (.int .i64 lo), .raw (.int .i64 hi)] (V.raw (.bool false)) := by
  exact fn_of cfx_mixed cfx_call cfx_base.1 cfx_base.2.1 cfx_base.2.2 (n := 40) (ans := [Ans.go, Ans.br false, Ans.br false]) (cons := [(decide (lo ≤ x) = false), (false = false)]) (by kernel_rfl) rfl rfl
    ⟨(by first | assumption | exact flg (by first | assumption | omega) | (simp_all; done)), rfl, trivial⟩
theorem btw_p (x lo hi : Int) : Ret cfx 51 [.raw (.int .i64 x), .raw (.int .i64 lo), .raw (.int .i64 hi)] (.raw (.bool (M.btw x lo hi))) := by
  by_cases f0 : lo ≤ x
  ·
    have e : (.raw (.bool (M.btw x lo hi)) : V) = V.raw (.bool (decide (x ≤ hi))) := by (simp_all [M.btw] <;> omega)
    rw [e]
    exact btw_p_1 x lo hi f0
  ·
    have e : (.raw (.bool (M.btw x lo hi)) : V) = V.raw (.bool false) := by (simp_all [M.btw] <;> omega)
    rw [e]
    exact btw_p_2 x lo hi f0
end Go.Proofs.Ytcibaankajfhlaa
end
section
set_option maxRecDepth 100000
namespace Go.Proofs.Ytcibaankajfhlaa
open Go Go.RowKit Go.Proofs.Ytcibaankajfhlaa.E2
theorem isp_p (x : Int)  : Ret cfx 57 [.raw (.int .i64 x)] (V.raw (.bool (M.btw x 0 1000))) := by
  exact fn_of cfx_mixed cfx_call cfx_base.1 cfx_base.2.1 cfx_base.2.2 (n := 40) (ans := [Ans.go, Ans.ret (V.raw (.bool (M.btw x 0 1000)))]) (cons := [(Ret cfx 51 [iV x, iV 0, iV 1000] (V.raw (.bool (M.btw x 0 1000))))]) (by kernel_rfl) rfl rfl
    ⟨(btw_p _ _ _), trivial⟩
end Go.Proofs.Ytcibaankajfhlaa
end
section
set_option maxRecDepth 100000
namespace Go.Proofs.Ytcibaankajfhlaa
open Go Go.RowKit Go.Proofs.Ytcibaankajfhlaa.E2
def apa_T (ss : List Int) (n : Nat) (TA : Nat) (i : Int) (b : Int) : List V := [.slo 0 n, uV, V.raw (.bool false), iV b, uV, .any 5, .slo 0 n, iV (↑n : Int), iV i, .any 9, .any 10, .any 11, .any 12, .any 13, .any 14, .any 15, .any 16, .any 17, .any 18, .any 19, .any 20, .any 21, uV, uV, uV, uV, uV, uV, uV, uV]
def apa_H (ss : List Int) (n : Nat) (TA : Nat) (i : Int) (b : Int) : Heap := [some (.cells (ints ss) TA .ro)]
theorem apa_1 (ss : List Int) (n : Nat) (TA : Nat) (i : Int) (b : Int) (hb0 : 0 ≤ b) (hb1 : b ≤ 100) (hi0 : 0 ≤ i) (hi1 : i ≤ 100) (hn : n ≤ 100) (hz : ss.length = n) (f0 : i < (↑n : Int)) (f1 : at' ss (i.toNat * 1) = (-1 : Int)) : Runs cfx 0 1 none (loopOf cfx.P 49 0) (apa_T ss n TA i b) (apa_H ss n TA i b) (Ex.normal) (apa_T ss n TA (i + 1) (b + 1)) (apa_H ss n TA (i + 1) (b + 1)) := by
  refine Runs.post (t1 := [.slo 0 n, uV, V.raw (.bool false), iV (b + 1), uV, iV (at' ss (i.toNat * 1)), .slo 0 n, iV (↑n : Int), iV (i + 1), V.raw (.bool (decide (i < (↑n : Int)))), V.ptr 0 (i.toNat * 1), iV (at' ss (i.toNat * 1)), V.raw (.bool (decide (at' ss (i.toNat * 1) = (-1 : Int)))), iV (at' ss (i.toNat * 1)), V.raw (.bool (decide (at' ss (i.toNat * 1) = (-1 : Int)))), iV b, iV (b + 1), .any 17, .any 18, .any 19, .any 20, iV (i + 1), uV, uV, uV, uV, uV, uV, uV, uV]) (h1 := [some (.cells (ints ss) TA .ro)]) (body_of cfx_mixed cfx_call (Nat.zero_le _) (rnd := none) (fi := 0) (k := 0) (n := 40) (n0 := 1) (ans := [Ans.br true, Ans.val 0 (iV (at' ss (i.toNat * 1))), Ans.br true]) (cons := [(decide (i < (↑n : Int)) = true), (0 ≤ i ∧ i < (↑n : Int)), (loadRow cfx 3 (ints ss) (i.toNat * 1) = some (iV (at' ss (i.toNat * 1)))), (decide (at' ss (i.toNat * 1) = (-1 : Int)) = true), (inR IntKind.i64 (b + 1)), (inR IntKind.i64 (i + 1))]) (by kernel_rfl)
    ⟨(by first | omega | (simp; omega) | (simp_all; omega)), (by omega), (load_one (by kernel_rfl) (by omega)), (by first | assumption | exact flg (by first | assumption | omega) | (simp_all; done)), inR_i64 (by omega) (by omega), inR_i64 (by omega) (by omega), trivial⟩ (Nat.le_of_ble_eq_true rfl) (Nat.le_of_ble_eq_true rfl) noRnd (noRanges (by kernel_rfl))) (fun RT RH => reshape2 (lim := 0) 1 cfx_G rfl [] (by kernel_rfl) (by kernel_rfl) (by exact (ents_raw (ints_all _) rfl rfl (ents_nil))) RT RH)
def apa_T2 (ss : List Int) (n : Nat) (TA : Nat) (i : Int) (b : Int) : List V := [.any 0, .any 1, V.raw (.bool false), .any 3, .any 4, .any 5, .any 6, .any 7, .any 8, .any 9, .any 10, .any 11, .any 12, .any 13, .any 14, .any 15, .any 16, .any 17, .any 18, .any 19, .any 20, .any 21, .any 22, .any 23, .any 24, .any 25, .any 26, .any 27, .any 28, .any 29]
def apa_H2 (ss : List Int) (n : Nat) (TA : Nat) (i : Int) (b : Int) : Heap := [some (.cells (ints ss) TA .ro)]
theorem apa_2 (ss : List Int) (n : Nat) (TA : Nat) (i : Int) (b : Int) (hb0 : 0 ≤ b) (hb1 : b ≤ 100) (hi0 : 0 ≤ i) (hi1 : i ≤ 100) (hn : n ≤ 100) (hz : ss.length = n) (f0 : i < (↑n : Int)) (f1 : ¬at' ss (i.toNat * 1) = (-1 : Int)) (f2 : M.btw (at' ss (i.toNat * 1)) 0 1000 = false) : Runs cfx 0 1 none (loopOf cfx.P 49 0) (apa_T ss n TA i b) (apa_H ss n TA i b) (Ex.ret) (apa_T2 ss n TA i b) (apa_H2 ss n TA i b) := by
  refine Runs.post (t1 := [.slo 0 n, uV, V.raw (.bool false), iV b, uV, iV (at' ss (i.toNat * 1)), .slo 0 n, iV (↑n : Int), iV i, V.raw (.bool (decide (i < (↑n : Int)))), V.ptr 0 (i.toNat * 1), iV (at' ss (i.toNat * 1)), V.raw (.bool (decide (at' ss (i.toNat * 1) = (-1 : Int)))), iV (at' ss (i.toNat * 1)), V.raw (.bool (decide (at' ss (i.toNat * 1) = (-1 : Int)))), .any 15, .any 16, V.raw (.bool !M.btw (at' ss (i.toNat * 1)) 0 1000), iV (at' ss (i.toNat * 1)), V.raw (.bool (M.btw (at' ss (i.toNat * 1)) 0 1000)), V.raw (.bool !M.btw (at' ss (i.toNat * 1)) 0 1000), .any 21, uV, uV, uV, uV, uV, uV, uV, uV]) (h1 := [some (.cells (ints ss) TA .ro)]) (body_of cfx_mixed cfx_call (Nat.zero_le _) (rnd := none) (fi := 0) (k := 0) (n := 40) (n0 := 1) (ans := [Ans.br true, Ans.val 0 (iV (at' ss (i.toNat * 1))), Ans.br false, Ans.ret (V.raw (.bool (M.btw (at' ss (i.toNat * 1)) 0 1000))), Ans.br true]) (cons := [(decide (i < (↑n : Int)) = true), (0 ≤ i ∧ i < (↑n : Int)), (loadRow cfx 3 (ints ss) (i.toNat * 1) = some (iV (at' ss (i.toNat * 1)))), (decide (at' ss (i.toNat * 1) = (-1 : Int)) = false), (Ret cfx 57 [iV (at' ss (i.toNat * 1))] (V.raw (.bool (M.btw (at' ss (i.toNat * 1)) 0 1000)))), ((!M.btw (at' ss (i.toNat * 1)) 0 1000) = true)]) (by kernel_rfl)
    ⟨(by first | omega | (simp; omega) | (simp_all; omega)), (by omega), (load_one (by kernel_rfl) (by omega)), (by first | assumption | exact flg (by first | assumption | omega) | (simp_all; done)), (isp_p _), (by first | assumption | exact flg (by first | assumption | omega) | (simp_all; done)), trivial⟩ (Nat.le_of_ble_eq_true rfl) (Nat.le_of_ble_eq_true rfl) noRnd (noRanges (by kernel_rfl))) (fun RT RH => reshape2 (lim := 0) 1 cfx_G rfl [] (by kernel_rfl) (by kernel_rfl) (by exact (ents_raw (ints_all _) rfl rfl (ents_nil))) RT RH)
theorem apa_3 (ss : List Int) (n : Nat) (TA : Nat) (i : Int) (b : Int) (hb0 : 0 ≤ b) (hb1 : b ≤ 100) (hi0 : 0 ≤ i) (hi1 : i ≤ 100) (hn : n ≤ 100) (hz : ss.length = n) (f0 : i < (↑n : Int)) (f1 : ¬at' ss (i.toNat * 1) = (-1 : Int)) (f2 : M.btw (at' ss (i.toNat * 1)) 0 1000 = true) : Runs cfx 0 1 none (loopOf cfx.P 49 0) (apa_T ss n TA i b) (apa_H ss n TA i b) (Ex.normal) (apa_T ss n TA (i + 1) b) (apa_H ss n TA (i + 1) b) := by
  refine Runs.post (t1 := [.slo 0 n, uV, V.raw (.bool false), iV b, uV, iV (at' ss (i.toNat * 1)), .slo 0 n, iV (↑n : Int), iV (i + 1), V.raw (.bool (decide (i < (↑n : Int)))), V.ptr 0 (i.toNat * 1), iV (at' ss (i.toNat * 1)), V.raw (.bool (decide (at' ss (i.toNat * 1) = (-1 : Int)))), iV (at' ss (i.toNat * 1)), V.raw (.bool (decide (at' ss (i.toNat * 1) = (-1 : Int)))), .any 15, .any 16, V.raw (.bool !M.btw (at' ss (i.toNat * 1)) 0 1000), iV (at' ss (i.toNat * 1)), V.raw (.bool (M.btw (at' ss (i.toNat * 1)) 0 1000)), V.raw (.bool !M.btw (at' ss (i.toNat * 1)) 0 1000), iV (i + 1), uV, uV, uV, uV, uV, uV, uV, uV]) (h1 := [some (.cells (ints ss) TA .ro)]) (body_of cfx_mixed cfx_call (Nat.zero_le _) (rnd := none) (fi := 0) (k := 0) (n := 40) (n0 := 1) (ans := [Ans.br true, Ans.val 0 (iV (at' ss (i.toNat * 1))), Ans.br false, Ans.ret (V.raw (.bool (M.btw (at' ss (i.toNat * 1)) 0 1000))), Ans.br false]) (cons := [(decide (i < (↑n : Int)) = true), (0 ≤ i ∧ i < (↑n : Int)), (loadRow cfx 3 (ints ss) (i.toNat * 1) = some (iV (at' ss (i.toNat * 1)))), (decide (at' ss (i.toNat * 1) = (-1 : Int)) = false), (Ret cfx 57 [iV (at' ss (i.toNat * 1))] (V.raw (.bool (M.btw (at' ss (i.toNat * 1)) 0 1000)))), ((!M.btw (at' ss (i.toNat * 1)) 0 1000) = false), (inR IntKind.i64 (i + 1))]) (by kernel_rfl)
    ⟨(by first | omega | (simp; omega) | (simp_all; omega)), (by omega), (load_one (by kernel_rfl) (by omega)), (by first | assumption | exact flg (by first | assumption | omega) | (simp_all; done)), (isp_p _), (by first | assumption | exact flg (by first | assumption | omega) | (simp_all; done)), inR_i64 (by omega) (by omega), trivial⟩ (Nat.le_of_ble_eq_true rfl) (Nat.le_of_ble_eq_true rfl) noRnd (noRanges (by kernel_rfl))) (fun RT RH => reshape2 (lim := 0) 1 cfx_G rfl [] (by kernel_rfl) (by kernel_rfl) (by exact (ents_raw (ints_all _) rfl rfl (ents_nil))) RT RH)
def apa_T4 (ss : List Int) (n : Nat) (TA : Nat) (i : Int) (b : Int) : List V := [.slo 0 n, uV, V.raw (.bool false), iV b, uV, .any 5, .slo 0 n, iV (↑n : Int), iV i, .any 9, .any 10, .any 11, .any 12, .any 13, .any 14, .any 15, .any 16, .any 17, .any 18, .any 19, .any 20, .any 21, uV, uV, uV, uV, uV, uV, uV, uV]
def apa_H4 (ss : List Int) (n : Nat) (TA : Nat) (i : Int) (b : Int) : Heap := [some (.cells (ints ss) TA .ro)]
theorem apa_4 (ss : List Int) (n : Nat) (TA : Nat) (i : Int) (b : Int) (hb0 : 0 ≤ b) (hb1 : b ≤ 100) (hi0 : 0 ≤ i) (hi1 : i ≤ 100) (hn : n ≤ 100) (hz : ss.length = n) (f0 : ¬i < (↑n : Int)) : Runs cfx 0 1 none (loopOf cfx.P 49 0) (apa_T ss n TA i b) (apa_H ss n TA i b) (Ex.exit 0) (apa_T4 ss n TA i b) (apa_H4 ss n TA i b) := by
  refine Runs.post (t1 := [.slo 0 n, uV, V.raw (.bool false), iV b, uV, .any 5, .slo 0 n, iV (↑n : Int), iV i, V.raw (.bool (decide (i < (↑n : Int)))), .any 10, .any 11, .any 12, .any 13, .any 14, .any 15, .any 16, .any 17, .any 18, .any 19, .any 20, .any 21, uV, uV, uV, uV, uV, uV, uV, uV]) (h1 := [some (.cells (ints ss) TA .ro)]) (body_of cfx_mixed cfx_call (Nat.zero_le _) (rnd := none) (fi := 0) (k := 0) (n := 40) (n0 := 1) (ans := [Ans.br false]) (cons := [(decide (i < (↑n : Int)) = false)]) (by kernel_rfl)
    ⟨(by first | omega | (simp; omega) | (simp_all; omega)), trivial⟩ (Nat.le_of_ble_eq_true rfl) (Nat.le_of_ble_eq_true rfl) noRnd (noRanges (by kernel_rfl))) (fun RT RH => reshape2 (lim := 0) 1 cfx_G rfl [] (by kernel_rfl) (by kernel_rfl) (by exact (ents_raw (ints_all _) rfl rfl (ents_nil))) RT RH)
def slo_T (ss : List Int) (n : Nat) (TA : Nat) (i : Int) (m : Mp) : List V := [.slo 0 n, uV, V.raw (Value.map none), V.mp 1, .any 4, .any 5, V.mp 1, .slo 0 n, iV (↑n : Int), iV i, .any 10, .any 11, .any 12, .any 13, .any 14, .any 15, .any 16, .any 17, .any 18, .any 19, uV]
def slo_H (ss : List Int) (n : Nat) (TA : Nat) (i : Int) (m : Mp) : Heap := [some (.cells (ints ss) TA .ro), some (mapB [] m)]
theorem slo_1 (ss : List Int) (n : Nat) (TA : Nat) (i : Int) (m : Mp) (hi0 : 0 ≤ i) (hi1 : i ≤ 100) (hn : n ≤ 100) (hz : ss.length = n) (f0 : i < (↑n : Int)) (f1 : ¬at' ss (i.toNat * 1) = (-1 : Int)) : Runs cfx 0 2 none (loopOf cfx.P 56 0) (slo_T ss n TA i m) (slo_H ss n TA i m) (Ex.normal) (slo_T ss n TA (i + 1) (mput m (at' ss (i.toNat * 1)) [i])) (slo_H ss n TA (i + 1) (mput m (at' ss (i.toNat * 1)) [i])) := by
  refine Runs.post (t1 := [.slo 0 n, uV, V.raw (Value.map none), V.mp 1, iV i, iV (at' ss (i.toNat * 1)), V.mp 1, .slo 0 n, iV (↑n : Int), iV (i + 1), V.raw (.bool (decide (i < (↑n : Int)))), iV i, V.ptr 0 (i.toNat * 1), iV (at' ss (i.toNat * 1)), iV (at' ss (i.toNat * 1)), V.raw (.bool !decide (at' ss (i.toNat * 1) = (-1 : Int))), V.mp 1, iV (at' ss (i.toNat * 1)), iV i, iV (i + 1), uV]) (h1 := [some (.cells (ints ss) TA .ro), some (mapB [] (mput m (at' ss (i.toNat * 1)) [i]))]) (body_of cfx_mixed cfx_call (Nat.zero_le _) (rnd := none) (fi := 0) (k := 0) (n := 40) (n0 := 2) (ans := [Ans.br true, Ans.val 0 (iV (at' ss (i.toNat * 1))), Ans.br true, ansM [] (mput m (at' ss (i.toNat * 1)) [i])]) (cons := [(decide (i < (↑n : Int)) = true), (0 ≤ i ∧ i < (↑n : Int)), (loadRow cfx 3 (ints ss) (i.toNat * 1) = some (iV (at' ss (i.toNat * 1)))), ((!decide (at' ss (i.toNat * 1) = (-1 : Int))) = true), ((mks m).length = (mvs' ([] : List Bool) m).length ∧ (mks m).length = (mbs m).length), (putM cfx 3 (mks m) (mvs' ([] : List Bool) m) (mbs m) (Mp.clk m) (Value.int IntKind.i64 (at' ss (i.toNat * 1))) (iV i) = some (mks (mput m (at' ss (i.toNat * 1)) [i]), mvs' ([] : List Bool) (mput m (at' ss (i.toNat * 1)) [i]), mbs (mput m (at' ss (i.toNat * 1)) [i]), Mp.clk (mput m (at' ss (i.toNat * 1)) [i]))), (inR IntKind.i64 (i + 1))]) (by kernel_rfl)
    ⟨(by first | omega | (simp; omega) | (simp_all; omega)), (by omega), (load_one (by kernel_rfl) (by omega)), (by first | assumption | exact flg (by first | assumption | omega) | (simp_all; done)), mp_len, (map_put (kt := 3) (k := (at' ss (i.toNat * 1))) (ks := ([] : List Bool)) (m := m) ⟨by kernel_rfl, by kernel_rfl, by kernel_rfl⟩ [i]), inR_i64 (by omega) (by omega), trivial⟩ (Nat.le_of_ble_eq_true rfl) (Nat.le_of_ble_eq_true rfl) noRnd (noRanges (by kernel_rfl))) (fun RT RH => reshape2 (lim := 0) 2 cfx_G rfl [] (by kernel_rfl) (by kernel_rfl) (by exact (ents_raw (ints_all _) rfl rfl (ents_map rfl rfl (ents_nil)))) RT RH)
theorem slo_2 (ss : List Int) (n : Nat) (TA : Nat) (i : Int) (m : Mp) (hi0 : 0 ≤ i) (hi1 : i ≤ 100) (hn : n ≤ 100) (hz : ss.length = n) (f0 : i < (↑n : Int)) (f1 : at' ss (i.toNat * 1) = (-1 : Int)) : Runs cfx 0 2 none (loopOf cfx.P 56 0) (slo_T ss n TA i m) (slo_H ss n TA i m) (Ex.normal) (slo_T ss n TA (i + 1) m) (slo_H ss n TA (i + 1) m) := by
  refine Runs.post (t1 := [.slo 0 n, uV, V.raw (Value.map none), V.mp 1, iV i, iV (at' ss (i.toNat * 1)), V.mp 1, .slo 0 n, iV (↑n : Int), iV (i + 1), V.raw (.bool (decide (i < (↑n : Int)))), iV i, V.ptr 0 (i.toNat * 1), iV (at' ss (i.toNat * 1)), iV (at' ss (i.toNat * 1)), V.raw (.bool !decide (at' ss (i.toNat * 1) = (-1 : Int))), .any 16, .any 17, .any 18, iV (i + 1), uV]) (h1 := [some (.cells (ints ss) TA .ro), some (mapB [] m)]) (body_of cfx_mixed cfx_call (Nat.zero_le _) (rnd := none) (fi := 0) (k := 0) (n := 40) (n0 := 2) (ans := [Ans.br true, Ans.val 0 (iV (at' ss (i.toNat * 1))), Ans.br false]) (cons := [(decide (i < (↑n : Int)) = true), (0 ≤ i ∧ i < (↑n : Int)), (loadRow cfx 3 (ints ss) (i.toNat * 1) = some (iV (at' ss (i.toNat * 1)))), ((!decide (at' ss (i.toNat * 1) = (-1 : Int))) = false), (inR IntKind.i64 (i + 1))]) (by kernel_rfl)
    ⟨(by first | omega | (simp; omega) | (simp_all; omega)), (by omega), (load_one (by kernel_rfl) (by omega)), (by first | assumption | exact flg (by first | assumption | omega) | (simp_all; done)), inR_i64 (by omega) (by omega), trivial⟩ (Nat.le_of_ble_eq_true rfl) (Nat.le_of_ble_eq_true rfl) noRnd (noRanges (by kernel_rfl))) (fun RT RH => reshape2 (lim := 0) 2 cfx_G rfl [] (by kernel_rfl) (by kernel_rfl) (by exact (ents_raw (ints_all _) rfl rfl (ents_map rfl rfl (ents_nil)))) RT RH)
def slo_T3 (ss : List Int) (n : Nat) (TA : Nat) (i : Int) (m : Mp) : List V := [.slo 0 n, uV, V.raw (Value.map none), V.mp 1, .any 4, .any 5, V.mp 1, .slo 0 n, iV (↑n : Int), iV i, .any 10, .any 11, .any 12, .any 13, .any 14, .any 15, .any 16, .any 17, .any 18, .any 19, uV]
def slo_H3 (ss : List Int) (n : Nat) (TA : Nat) (i : Int) (m : Mp) : Heap := [some (.cells (ints ss) TA .ro), some (mapB [] m)]
theorem slo_3 (ss : List Int) (n : Nat) (TA : Nat) (i : Int) (m : Mp) (hi0 : 0 ≤ i) (hi1 : i ≤ 100) (hn : n ≤ 100) (hz : ss.length = n) (f0 : ¬i < (↑n : Int)) : Runs cfx 0 2 none (loopOf cfx.P 56 0) (slo_T ss n TA i m) (slo_H ss n TA i m) (Ex.exit 0) (slo_T3 ss n TA i m) (slo_H3 ss n TA i m) := by
  refine Runs.post (t1 := [.slo 0 n, uV, V.raw (Value.map none), V.mp 1, .any 4, .any 5, V.mp 1, .slo 0 n, iV (↑n : Int), iV i, V.raw (.bool (decide (i < (↑n : Int)))), .any 11, .any 12, .any 13, .any 14, .any 15, .any 16, .any 17, .any 18, .any 19, uV]) (h1 := [some (.cells (ints ss) TA .ro), some (mapB [] m)]) (body_of cfx_mixed cfx_call (Nat.zero_le _) (rnd := none) (fi := 0) (k := 0) (n := 40) (n0 := 2) (ans := [Ans.br false]) (cons := [(decide (i < (↑n : Int)) = false)]) (by kernel_rfl)
    ⟨(by first | omega | (simp; omega) | (simp_all; omega)), trivial⟩ (Nat.le_of_ble_eq_true rfl) (Nat.le_of_ble_eq_true rfl) noRnd (noRanges (by kernel_rfl))) (fun RT RH => reshape2 (lim := 0) 2 cfx_G rfl [] (by kernel_rfl) (by kernel_rfl) (by exact (ents_raw (ints_all _) rfl rfl (ents_map rfl rfl (ents_nil)))) RT RH)
end Go.Proofs.Ytcibaankajfhlaa
end
section
set_option maxRecDepth 100000
namespace Go.Proofs.Ytcibaankajfhlaa
open Go Go.RowKit Go.Proofs.Ytcibaankajfhlaa.E2
def cks_T (zs : List Int) (n : Nat) (TS : Nat) (i : Int) : List V := [.slo 0 n, uV, iV 0, uV, .any 4, .slo 0 n, iV (↑n : Int), V.raw (.bool (decide (400 < (↑n : Int)))), .slo 0 n, iV (↑n : Int), iV i, .any 11, .any 12, .any 13, .any 14, .any 15, .any 16, .any 17, .any 18, .any 19, .any 20, .any 21, .any 22, .any 23, .any 24, .any 25, .any 26, .any 27, .any 28, .any 29]
def cks_H (zs : List Int) (n : Nat) (TS : Nat) (i : Int) : Heap := [some (.cells (ints zs) TS .ro)]
def cks_T1 (zs : List Int) (n : Nat) (TS : Nat) (i : Int) : List V := [.any 0, .any 1, iV 2, .any 3, .any 4, .any 5, .any 6, .any 7, .any 8, .any 9, .any 10, .any 11, .any 12, .any 13, .any 14, .any 15, .any 16, .any 17, .any 18, .any 19, .any 20, .any 21, .any 22, .any 23, .any 24, .any 25, .any 26, .any 27, .any 28, .any 29]
def cks_H1 (zs : List Int) (n : Nat) (TS : Nat) (i : Int) : Heap := [some (.cells (ints zs) TS .ro)]
theorem cks_1 (zs : List Int) (n : Nat) (TS : Nat) (i : Int) (hi0 : 0 ≤ i) (hi1 : i ≤ 500) (hn : n ≤ 400) (hz : zs.length = n * 4) (f0 : i < (↑n : Int)) (f1 : at' zs (i.toNat * 4 + 1) < 0) : Runs cfx 0 1 none (loopOf cfx.P 59 0) (cks_T zs n TS i) (cks_H zs n TS i) (Ex.ret) (cks_T1 zs n TS i) (cks_H1 zs n TS i) := by
  refine Runs.post (t1 := [.slo 0 n, uV, iV 2, uV, .ptr 1 0, .slo 0 n, iV (↑n : Int), V.raw (.bool (decide (400 < (↑n : Int)))), .slo 0 n, iV (↑n : Int), iV i, V.raw (.bool (decide (i < (↑n : Int)))), V.ptr 0 (i.toNat * 4), (rowV zs (i.toNat * 4) 4), .ptr 1 1, iV (at' zs (i.toNat * 4 + 1)), V.raw (.bool (decide (at' zs (i.toNat * 4 + 1) < 0))), V.lit true, uV, uV, uV, uV, V.raw (.bool true), V.lit true, uV, uV, uV, uV, V.raw (.bool true), .any 29]) (h1 := [some (.cells (ints zs) TS .ro), some (.cells [iV (at' zs (i.toNat * 4)), iV (at' zs (i.toNat * 4 + 1)), iV (at' zs (i.toNat * 4 + 2)), iV (at' zs (i.toNat * 4 + 3))] 36 .rw)]) (body_of cfx_mixed cfx_call (Nat.zero_le _) (rnd := none) (fi := 0) (k := 0) (n := 40) (n0 := 1) (ans := [Ans.br true, Ans.val 0 ((rowV zs (i.toNat * 4) 4)), Ans.br true, Ans.br true, Ans.br true, Ans.br true, Ans.br true]) (cons := [(decide (i < (↑n : Int)) = true), (0 ≤ i ∧ i < (↑n : Int)), (loadRow cfx 36 (ints zs) (i.toNat * 4) = some ((rowV zs (i.toNat * 4) 4))), (decide (at' zs (i.toNat * 4 + 1) < 0) = true), (true = true), (true = true), (true = true), (true = true)]) (by kernel_rfl)
    ⟨(by first | omega | (simp; omega) | (simp_all; omega)), (by omega), (load_agg 4 (by kernel_rfl) (by kernel_rfl) (Nat.le_of_ble_eq_true rfl) (by omega)), (by first | (exact decide_eq_true (by assumption)) | (exact decide_eq_false (by assumption)) | omega | (simp; omega) | (simp_all; omega)), rfl, rfl, rfl, rfl, trivial⟩ (Nat.le_of_ble_eq_true rfl) (Nat.le_of_ble_eq_true rfl) noRnd (noRanges (by kernel_rfl))) (fun RT RH => reshape2 (lim := 0) 1 cfx_G rfl [] (by kernel_rfl) (by kernel_rfl) (by exact (ents_raw (ints_all _) rfl rfl (ents_nil))) RT RH)
def cks_T2 (zs : List Int) (n : Nat) (TS : Nat) (i : Int) : List V := [.any 0, .any 1, iV 2, .any 3, .any 4, .any 5, .any 6, .any 7, .any 8, .any 9, .any 10, .any 11, .any 12, .any 13, .any 14, .any 15, .any 16, .any 17, .any 18, .any 19, .any 20, .any 21, .any 22, .any 23, .any 24, .any 25, .any 26, .any 27, .any 28, .any 29]
def cks_H2 (zs : List Int) (n : Nat) (TS : Nat) (i : Int) : Heap := [some (.cells (ints zs) TS .ro)]
theorem cks_2 (zs : List Int) (n : Nat) (TS : Nat) (i : Int) (hi0 : 0 ≤ i) (hi1 : i ≤ 500) (hn : n ≤ 400) (hz : zs.length = n * 4) (f0 : i < (↑n : Int)) (f1 : ¬at' zs (i.toNat * 4 + 1) < 0) (f2 : M.btw (at' zs (i.toNat * 4 + 2)) 0 1 = false) : Runs cfx 0 1 none (loopOf cfx.P 59 0) (cks_T zs n TS i) (cks_H zs n TS i) (Ex.ret) (cks_T2 zs n TS i) (cks_H2 zs n TS i) := by
  refine Runs.post (t1 := [.slo 0 n, uV, iV 2, uV, .ptr 1 0, .slo 0 n, iV (↑n : Int), V.raw (.bool (decide (400 < (↑n : Int)))), .slo 0 n, iV (↑n : Int), iV i, V.raw (.bool (decide (i < (↑n : Int)))), V.ptr 0 (i.toNat * 4), (rowV zs (i.toNat * 4) 4), .ptr 1 1, iV (at' zs (i.toNat * 4 + 1)), V.raw (.bool (decide (at' zs (i.toNat * 4 + 1) < 0))), V.lit false, .ptr 1 2, iV (at' zs (i.toNat * 4 + 2)), V.raw (.bool (M.btw (at' zs (i.toNat * 4 + 2)) 0 1)), V.raw (.bool !M.btw (at' zs (i.toNat * 4 + 2)) 0 1), V.raw (.bool !M.btw (at' zs (i.toNat * 4 + 2)) 0 1), V.lit true, uV, uV, uV, uV, V.raw (.bool true), .any 29]) (h1 := [some (.cells (ints zs) TS .ro), some (.cells [iV (at' zs (i.toNat * 4)), iV (at' zs (i.toNat * 4 + 1)), iV (at' zs (i.toNat * 4 + 2)), iV (at' zs (i.toNat * 4 + 3))] 36 .rw)]) (body_of cfx_mixed cfx_call (Nat.zero_le _) (rnd := none) (fi := 0) (k := 0) (n := 40) (n0 := 1) (ans := [Ans.br true, Ans.val 0 ((rowV zs (i.toNat * 4) 4)), Ans.br false, Ans.ret (V.raw (.bool (M.btw (at' zs (i.toNat * 4 + 2)) 0 1))), Ans.br false, Ans.br true, Ans.br true, Ans.br true]) (cons := [(decide (i < (↑n : Int)) = true), (0 ≤ i ∧ i < (↑n : Int)), (loadRow cfx 36 (ints zs) (i.toNat * 4) = some ((rowV zs (i.toNat * 4) 4))), (decide (at' zs (i.toNat * 4 + 1) < 0) = false), (Ret cfx 51 [iV (at' zs (i.toNat * 4 + 2)), iV 0, iV 1] (V.raw (.bool (M.btw (at' zs (i.toNat * 4 + 2)) 0 1)))), (false = false), ((!M.btw (at' zs (i.toNat * 4 + 2)) 0 1) = true), (true = true), (true = true)]) (by kernel_rfl)
    ⟨(by first | omega | (simp; omega) | (simp_all; omega)), (by omega), (load_agg 4 (by kernel_rfl) (by kernel_rfl) (Nat.le_of_ble_eq_true rfl) (by omega)), (by first | (exact decide_eq_true (by assumption)) | (exact decide_eq_false (by assumption)) | omega | (simp; omega) | (simp_all; omega)), (btw_p _ _ _), rfl, (by first | assumption | exact flg (by first | assumption | omega) | (simp_all; done)), rfl, rfl, trivial⟩ (Nat.le_of_ble_eq_true rfl) (Nat.le_of_ble_eq_true rfl) noRnd (noRanges (by kernel_rfl))) (fun RT RH => reshape2 (lim := 0) 1 cfx_G rfl [] (by kernel_rfl) (by kernel_rfl) (by exact (ents_raw (ints_all _) rfl rfl (ents_nil))) RT RH)
def cks_T3 (zs : List Int) (n : Nat) (TS : Nat) (i : Int) : List V := [.any 0, .any 1, iV 2, .any 3, .any 4, .any 5, .any 6, .any 7, .any 8, .any 9, .any 10, .any 11, .any 12, .any 13, .any 14, .any 15, .any 16, .any 17, .any 18, .any 19, .any 20, .any 21, .any 22, .any 23, .any 24, .any 25, .any 26, .any 27, .any 28, .any 29]
def cks_H3 (zs : List Int) (n : Nat) (TS : Nat) (i : Int) : Heap := [some (.cells (ints zs) TS .ro)]
theorem cks_3 (zs : List Int) (n : Nat) (TS : Nat) (i : Int) (hi0 : 0 ≤ i) (hi1 : i ≤ 500) (hn : n ≤ 400) (hz : zs.length = n * 4) (f0 : i < (↑n : Int)) (f1 : ¬at' zs (i.toNat * 4 + 1) < 0) (f2 : M.btw (at' zs (i.toNat * 4 + 2)) 0 1 = true) (f3 : M.btw (at' zs (i.toNat * 4 + 3)) 1 26 = false) : Runs cfx 0 1 none (loopOf cfx.P 59 0) (cks_T zs n TS i) (cks_H zs n TS i) (Ex.ret) (cks_T3 zs n TS i) (cks_H3 zs n TS i) := by
  refine Runs.post (t1 := [.slo 0 n, uV, iV 2, uV, .ptr 1 0, .slo 0 n, iV (↑n : Int), V.raw (.bool (decide (400 < (↑n : Int)))), .slo 0 n, iV (↑n : Int), iV i, V.raw (.bool (decide (i < (↑n : Int)))), V.ptr 0 (i.toNat * 4), (rowV zs (i.toNat * 4) 4), .ptr 1 1, iV (at' zs (i.toNat * 4 + 1)), V.raw (.bool (decide (at' zs (i.toNat * 4 + 1) < 0))), V.lit false, .ptr 1 2, iV (at' zs (i.toNat * 4 + 2)), V.raw (.bool (M.btw (at' zs (i.toNat * 4 + 2)) 0 1)), V.raw (.bool !M.btw (at' zs (i.toNat * 4 + 2)) 0 1), V.raw (.bool !M.btw (at' zs (i.toNat * 4 + 2)) 0 1), V.lit false, .ptr 1 3, iV (at' zs (i.toNat * 4 + 3)), V.raw (.bool (M.btw (at' zs (i.toNat * 4 + 3)) 1 26)), V.raw (.bool !M.btw (at' zs (i.toNat * 4 + 3)) 1 26), V.raw (.bool !M.btw (at' zs (i.toNat * 4 + 3)) 1 26), .any 29]) (h1 := [some (.cells (ints zs) TS .ro), some (.cells [iV (at' zs (i.toNat * 4)), iV (at' zs (i.toNat * 4 + 1)), iV (at' zs (i.toNat * 4 + 2)), iV (at' zs (i.toNat * 4 + 3))] 36 .rw)]) (body_of cfx_mixed cfx_call (Nat.zero_le _) (rnd := none) (fi := 0) (k := 0) (n := 40) (n0 := 1) (ans := [Ans.br true, Ans.val 0 ((rowV zs (i.toNat * 4) 4)), Ans.br false, Ans.ret (V.raw (.bool (M.btw (at' zs (i.toNat * 4 + 2)) 0 1))), Ans.br false, Ans.br false, Ans.ret (V.raw (.bool (M.btw (at' zs (i.toNat * 4 + 3)) 1 26))), Ans.br false, Ans.br true]) (cons := [(decide (i < (↑n : Int)) = true), (0 ≤ i ∧ i < (↑n : Int)), (loadRow cfx 36 (ints zs) (i.toNat * 4) = some ((rowV zs (i.toNat * 4) 4))), (decide (at' zs (i.toNat * 4 + 1) < 0) = false), (Ret cfx 51 [iV (at' zs (i.toNat * 4 + 2)), iV 0, iV 1] (V.raw (.bool (M.btw (at' zs (i.toNat * 4 + 2)) 0 1)))), (false = false), ((!M.btw (at' zs (i.toNat * 4 + 2)) 0 1) = false), (Ret cfx 51 [iV (at' zs (i.toNat * 4 + 3)), iV 1, iV 26] (V.raw (.bool (M.btw (at' zs (i.toNat * 4 + 3)) 1 26)))), (false = false), ((!M.btw (at' zs (i.toNat * 4 + 3)) 1 26) = true)]) (by kernel_rfl)
    ⟨(by first | omega | (simp; omega) | (simp_all; omega)), (by omega), (load_agg 4 (by kernel_rfl) (by kernel_rfl) (Nat.le_of_ble_eq_true rfl) (by omega)), (by first | (exact decide_eq_true (by assumption)) | (exact decide_eq_false (by assumption)) | omega | (simp; omega) | (simp_all; omega)), (btw_p _ _ _), rfl, (by first | assumption | exact flg (by first | assumption | omega) | (simp_all; done)), (btw_p _ _ _), rfl, (by first | assumption | exact flg (by first | assumption | omega) | (simp_all; done)), trivial⟩ (Nat.le_of_ble_eq_true rfl) (Nat.le_of_ble_eq_true rfl) noRnd (noRanges (by kernel_rfl))) (fun RT RH => reshape2 (lim := 0) 1 cfx_G rfl [] (by kernel_rfl) (by kernel_rfl) (by exact (ents_raw (ints_all _) rfl rfl (ents_nil))) RT RH)
theorem cks_4 (zs : List Int) (n : Nat) (TS : Nat) (i : Int) (hi0 : 0 ≤ i) (hi1 : i ≤ 500) (hn : n ≤ 400) (hz : zs.length = n * 4) (f0 : i < (↑n : Int)) (f1 : ¬at' zs (i.toNat * 4 + 1) < 0) (f2 : M.btw (at' zs (i.toNat * 4 + 2)) 0 1 = true) (f3 : M.btw (at' zs (i.toNat * 4 + 3)) 1 26 = true) : Runs cfx 0 1 none (loopOf cfx.P 59 0) (cks_T zs n TS i) (cks_H zs n TS i) (Ex.normal) (cks_T zs n TS (i + 1)) (cks_H zs n TS (i + 1)) := by
  refine Runs.post (t1 := [.slo 0 n, uV, iV 0, uV, .ptr 1 0, .slo 0 n, iV (↑n : Int), V.raw (.bool (decide (400 < (↑n : Int)))), .slo 0 n, iV (↑n : Int), iV (i + 1), V.raw (.bool (decide (i < (↑n : Int)))), V.ptr 0 (i.toNat * 4), (rowV zs (i.toNat * 4) 4), .ptr 1 1, iV (at' zs (i.toNat * 4 + 1)), V.raw (.bool (decide (at' zs (i.toNat * 4 + 1) < 0))), V.lit false, .ptr 1 2, iV (at' zs (i.toNat * 4 + 2)), V.raw (.bool (M.btw (at' zs (i.toNat * 4 + 2)) 0 1)), V.raw (.bool !M.btw (at' zs (i.toNat * 4 + 2)) 0 1), V.raw (.bool !M.btw (at' zs (i.toNat * 4 + 2)) 0 1), V.lit false, .ptr 1 3, iV (at' zs (i.toNat * 4 + 3)), V.raw (.bool (M.btw (at' zs (i.toNat * 4 + 3)) 1 26)), V.raw (.bool !M.btw (at' zs (i.toNat * 4 + 3)) 1 26), V.raw (.bool !M.btw (at' zs (i.toNat * 4 + 3)) 1 26), iV (i + 1)]) (h1 := [some (.cells (ints zs) TS .ro), some (.cells [iV (at' zs (i.toNat * 4)), iV (at' zs (i.toNat * 4 + 1)), iV (at' zs (i.toNat * 4 + 2)), iV (at' zs (i.toNat * 4 + 3))] 36 .rw)]) (body_of cfx_mixed cfx_call (Nat.zero_le _) (rnd := none) (fi := 0) (k := 0) (n := 40) (n0 := 1) (ans := [Ans.br true, Ans.val 0 ((rowV zs (i.toNat * 4) 4)), Ans.br false, Ans.ret (V.raw (.bool (M.btw (at' zs (i.toNat * 4 + 2)) 0 1))), Ans.br false, Ans.br false, Ans.ret (V.raw (.bool (M.btw (at' zs (i.toNat * 4 + 3)) 1 26))), Ans.br false, Ans.br false]) (cons := [(decide (i < (↑n : Int)) = true), (0 ≤ i ∧ i < (↑n : Int)), (loadRow cfx 36 (ints zs) (i.toNat * 4) = some ((rowV zs (i.toNat * 4) 4))), (decide (at' zs (i.toNat * 4 + 1) < 0) = false), (Ret cfx 51 [iV (at' zs (i.toNat * 4 + 2)), iV 0, iV 1] (V.raw (.bool (M.btw (at' zs (i.toNat * 4 + 2)) 0 1)))), (false = false), ((!M.btw (at' zs (i.toNat * 4 + 2)) 0 1) = false), (Ret cfx 51 [iV (at' zs (i.toNat * 4 + 3)), iV 1, iV 26] (V.raw (.bool (M.btw (at' zs (i.toNat * 4 + 3)) 1 26)))), (false = false), ((!M.btw (at' zs (i.toNat * 4 + 3)) 1 26) = false), (inR IntKind.i64 (i + 1))]) (by kernel_rfl)
    ⟨(by first | omega | (simp; omega) | (simp_all; omega)), (by omega), (load_agg 4 (by kernel_rfl) (by kernel_rfl) (Nat.le_of_ble_eq_true rfl) (by omega)), (by first | (exact decide_eq_true (by assumption)) | (exact decide_eq_false (by assumption)) | omega | (simp; omega) | (simp_all; omega)), (btw_p _ _ _), rfl, (by first | assumption | exact flg (by first | assumption | omega) | (simp_all; done)), (btw_p _ _ _), rfl, (by first | assumption | exact flg (by first | assumption | omega) | (simp_all; done)), inR_i64 (by omega) (by omega), trivial⟩ (Nat.le_of_ble_eq_true rfl) (Nat.le_of_ble_eq_true rfl) noRnd (noRanges (by kernel_rfl))) (fun RT RH => reshape2 (lim := 0) 1 cfx_G rfl [] (by kernel_rfl) (by kernel_rfl) (by exact (ents_raw (ints_all _) rfl rfl (ents_nil))) RT RH)
def cks_T5 (zs : List Int) (n : Nat) (TS : Nat) (i : Int) : List V := [.slo 0 n, uV, iV 0, uV, .any 4, .slo 0 n, iV (↑n : Int), V.raw (.bool (decide (400 < (↑n : Int)))), .slo 0 n, iV (↑n : Int), iV i, .any 11, .any 12, .any 13, .any 14, .any 15, .any 16, .any 17, .any 18, .any 19, .any 20, .any 21, .any 22, .any 23, .any 24, .any 25, .any 26, .any 27, .any 28, .any 29]
def cks_H5 (zs : List Int) (n : Nat) (TS : Nat) (i : Int) : Heap := [some (.cells (ints zs) TS .ro)]
theorem cks_5 (zs : List Int) (n : Nat) (TS : Nat) (i : Int) (hi0 : 0 ≤ i) (hi1 : i ≤ 500) (hn : n ≤ 400) (hz : zs.length = n * 4) (f0 : ¬i < (↑n : Int)) : Runs cfx 0 1 none (loopOf cfx.P 59 0) (cks_T zs n TS i) (cks_H zs n TS i) (Ex.exit 0) (cks_T5 zs n TS i) (cks_H5 zs n TS i) := by
  refine Runs.post (t1 := [.slo 0 n, uV, iV 0, uV, .any 4, .slo 0 n, iV (↑n : Int), V.raw (.bool (decide (400 < (↑n : Int)))), .slo 0 n, iV (↑n : Int), iV i, V.raw (.bool (decide (i < (↑n : Int)))), .any 12, .any 13, .any 14, .any 15, .any 16, .any 17, .any 18, .any 19, .any 20, .any 21, .any 22, .any 23, .any 24, .any 25, .any 26, .any 27, .any 28, .any 29]) (h1 := [some (.cells (ints zs) TS .ro)]) (body_of cfx_mixed cfx_call (Nat.zero_le _) (rnd := none) (fi := 0) (k := 0) (n := 40) (n0 := 1) (ans := [Ans.br false]) (cons := [(decide (i < (↑n : Int)) = false)]) (by kernel_rfl)
    ⟨(by first | omega | (simp; omega) | (simp_all; omega)), trivial⟩ (Nat.le_of_ble_eq_true rfl) (Nat.le_of_ble_eq_true rfl) noRnd (noRanges (by kernel_rfl))) (fun RT RH => reshape2 (lim := 0) 1 cfx_G rfl [] (by kernel_rfl) (by kernel_rfl) (by exact (ents_raw (ints_all _) rfl rfl (ents_nil))) RT RH)
end Go.Proofs.Ytcibaankajfhlaa
end
section
set_option maxRecDepth 100000
namespace Go.Proofs.Ytcibaankajfhlaa
open Go Go.RowKit Go.Proofs.Ytcibaankajfhlaa.E2
theorem M.goodS_iff {zs : List Int} {i : Nat} : M.goodS zs i = true ↔ ¬ at' zs (i * 4 + 1) < 0 ∧ M.btw (at' zs (i * 4 + 2)) 0 1 = true ∧ M.btw (at' zs (i * 4 + 3)) 1 26 = true := by
  simp [M.goodS, and_assoc]
theorem cks_loop (zs : List Int) (n : Nat) (TS : Nat) (hn : n ≤ 400) (hz : zs.length = n * 4) :
    ((List.range n).all (M.goodS zs) = true ∧ Runs cfx 0 1 none (.loop (loopOf cfx.P 59 0)) (cks_T zs n TS 0) (cks_H zs n TS 0) (.exit 0) (cks_T5 zs n TS (n : Nat)) (cks_H5 zs n TS (n : Nat))) ∨ ((List.range n).all (M.goodS zs) = false ∧ Runs cfx 0 1 none (.loop (loopOf cfx.P 59 0)) (cks_T zs n TS 0) (cks_H zs n TS 0) (.ret) (cks_T1 zs n TS 0) (cks_H1 zs n TS 0)) := by
  have key := upto_find (c := cfx) (lim := 0) (n0 := 1) (x := loopOf cfx.P 59 0) noRnd (M.goodS zs) (fun i => cks_T zs n TS (i : Nat)) (fun i => cks_H zs n TS (i : Nat)) n (e := .exit 0) (e1 := .ret) (Te := cks_T5 zs n TS (n : Nat)) (He := cks_H5 zs n TS (n : Nat)) (fun _ => cks_T1 zs n TS 0) (fun _ => cks_H1 zs n TS 0) (by simp) (by simp) (fun i hi hg => by
    obtain ⟨g1, g2, g3⟩ := M.goodS_iff.1 hg
    exact cks_4 zs n TS (i : Nat) (by omega) (by omega) hn hz (by omega) (by simpa using g1) (by simpa using g2) (by simpa using g3)) (fun i hi hg => by
    by_cases g1 : at' zs (i * 4 + 1) < 0
    · exact cks_1 zs n TS (i : Nat) (by omega) (by omega) hn hz (by omega) (by simpa using g1)
    · cases g2 : M.btw (at' zs (i * 4 + 2)) 0 1 with
      | false => exact cks_2 zs n TS (i : Nat) (by omega) (by omega) hn hz (by omega) (by simpa using g1) (by simpa using g2)
      | true => cases g3 : M.btw (at' zs (i * 4 + 3)) 1 26 with
        | false => exact cks_3 zs n TS (i : Nat) (by omega) (by omega) hn hz (by omega) (by simpa using g1) (by simpa using g2) (by simpa using g3)
        | true => rw [M.goodS_iff.2 ⟨g1, g2, g3⟩] at hg; cases hg) (by
    exact cks_5 zs n TS (n : Nat) (by omega) (by omega) hn hz (by omega))
  rcases key with ⟨h1, h2⟩ | ⟨h1, i, _, _, _, h2⟩
  · exact .inl ⟨h1, h2⟩
  · exact .inr ⟨h1, h2⟩
end Go.Proofs.Ytcibaankajfhlaa
end
section
set_option maxRecDepth 100000
namespace Go.Proofs.Ytcibaankajfhlaa
open Go Go.RowKit Go.Proofs.Ytcibaankajfhlaa.E2
theorem cnt_loop (zs : List Int) (n : Nat) (TS : Nat) (hn : n ≤ 500) (hz : zs.length = n * 4) : Runs cfx 0 2 none (.loop (loopOf cfx.P 60 0)) (cnt_T zs n TS 0 mnil) (cnt_H zs n TS 0 mnil) (.exit 0) (cnt_T4 zs n TS (n : Nat) (M.cnt zs n)) (cnt_H4 zs n TS (n : Nat) (M.cnt zs n)) :=
  upto noRnd (fun i => cnt_T zs n TS (i : Nat) (M.cnt zs i)) (fun i => cnt_H zs n TS (i : Nat) (M.cnt zs i)) n (by simp) (fun i hi => by
    cases h1 : mhas (M.cnt zs i) (at' zs (i * 4)) with
    | true => cases h2 : M.inst zs i (mget (M.cnt zs i) (at' zs (i * 4))) with
      | true =>
        rw [show M.cnt zs (i + 1) = mput (M.cnt zs i) (at' zs (i * 4)) (M.row4 zs i) by simp [M.cnt, h1, h2]]
        exact cnt_1 zs n TS (i : Nat) (M.cnt zs i) (by omega) (by omega) (by omega) hz (by omega) (by simpa using h1) (by simpa [M.inst] using h2)
      | false =>
        rw [show M.cnt zs (i + 1) = M.cnt zs i by simp [M.cnt, h1, h2]]
        exact cnt_2 zs n TS (i : Nat) (M.cnt zs i) (by omega) (by omega) (by omega) hz (by omega) (by simpa using h1) (by simpa [M.inst] using h2)
    | false =>
      rw [show M.cnt zs (i + 1) = mput (M.cnt zs i) (at' zs (i * 4)) (M.row4 zs i) by simp [M.cnt, h1]]
      exact cnt_3 zs n TS (i : Nat) (M.cnt zs i) (by omega) (by omega) (by omega) hz (by omega) (by simpa using h1)) (by exact cnt_4 zs n TS (n : Nat) (M.cnt zs n) (by omega) (by omega) (by omega) hz (by omega))
theorem slo_loop (ss : List Int) (n : Nat) (TA : Nat) (hn : n ≤ 100) (hz : ss.length = n) : Runs cfx 0 2 none (.loop (loopOf cfx.P 56 0)) (slo_T ss n TA 0 mnil) (slo_H ss n TA 0 mnil) (.exit 0) (slo_T3 ss n TA (n : Nat) (M.slt ss n)) (slo_H3 ss n TA (n : Nat) (M.slt ss n)) :=
  upto noRnd (fun i => slo_T ss n TA (i : Nat) (M.slt ss i)) (fun i => slo_H ss n TA (i : Nat) (M.slt ss i)) n (by simp) (fun i hi => by
    by_cases h1 : at' ss i = -1
    · rw [show M.slt ss (i + 1) = M.slt ss i by simp [M.slt, h1]]
      exact slo_2 ss n TA (i : Nat) (M.slt ss i) (by omega) (by omega) hn hz (by omega) (by simpa using h1)
    · have h := slo_1 ss n TA (i : Nat) (M.slt ss i) (by omega) (by omega) hn hz (by omega) (by simpa using h1)
      simp only [Int.toNat_natCast, Nat.mul_one] at h
      rw [show M.slt ss (i + 1) = mput (M.slt ss i) (at' ss i) [(i : Int)] by simp [M.slt, h1]]
      exact h) (by exact slo_3 ss n TA (n : Nat) (M.slt ss n) (by omega) (by omega) hn hz (by omega))
theorem M.byes_le (ss : List Int) : ∀ i : Nat, 0 ≤ M.byes ss i ∧ M.byes ss i ≤ i
  | 0 => ⟨Int.le_refl _, Int.le_refl _⟩
  | i + 1 => by
    have := M.byes_le ss i
    simp only [M.byes]
    split <;> omega
theorem apa_loop (ss : List Int) (n : Nat) (TA : Nat) (hn : n ≤ 100) (hz : ss.length = n) :
    ((List.range n).all (M.okS ss) = true ∧ Runs cfx 0 1 none (.loop (loopOf cfx.P 49 0)) (apa_T ss n TA 0 0) (apa_H ss n TA 0 0) (.exit 0) (apa_T4 ss n TA (n : Nat) (M.byes ss n)) (apa_H4 ss n TA (n : Nat) (M.byes ss n))) ∨ ((List.range n).all (M.okS ss) = false ∧ Runs cfx 0 1 none (.loop (loopOf cfx.P 49 0)) (apa_T ss n TA 0 0) (apa_H ss n TA 0 0) (.ret) (apa_T2 ss n TA 0 0) (apa_H2 ss n TA 0 0)) := by
  have key := upto_find (c := cfx) (lim := 0) (n0 := 1) (x := loopOf cfx.P 49 0) noRnd (M.okS ss) (fun i => apa_T ss n TA (i : Nat) (M.byes ss i)) (fun i => apa_H ss n TA (i : Nat) (M.byes ss i)) n (e := .exit 0) (e1 := .ret) (Te := apa_T4 ss n TA (n : Nat) (M.byes ss n)) (He := apa_H4 ss n TA (n : Nat) (M.byes ss n)) (fun _ => apa_T2 ss n TA 0 0) (fun _ => apa_H2 ss n TA 0 0) (by simp) (by simp) (fun i hi hg => by
    have hb := M.byes_le ss i
    by_cases h1 : at' ss i = -1
    · rw [show M.byes ss (i + 1) = M.byes ss i + 1 by simp [M.byes, h1]]
      exact apa_1 ss n TA (i : Nat) (M.byes ss i) (by omega) (by omega) (by omega) (by omega) hn hz (by omega) (by simpa using h1)
    · rw [show M.byes ss (i + 1) = M.byes ss i by simp [M.byes, h1]]
      exact apa_3 ss n TA (i : Nat) (M.byes ss i) (by omega) (by omega) (by omega) (by omega) hn hz (by omega) (by simpa using h1) (by simpa [M.okS, h1] using hg)) (fun i hi hg => by
    have hb := M.byes_le ss i
    by_cases h1 : at' ss i = -1
    · simp [M.okS, h1] at hg
    · exact apa_2 ss n TA (i : Nat) (M.byes ss i) (by omega) (by omega) (by omega) (by omega) hn hz (by omega) (by simpa using h1) (by simpa [M.okS, h1] using hg)) (by
    have hb := M.byes_le ss n
    exact apa_4 ss n TA (n : Nat) (M.byes ss n) (by omega) (by omega) (by omega) (by omega) hn hz (by omega))
  rcases key with ⟨h1, h2⟩ | ⟨h1, i, _, _, _, h2⟩
  · exact .inl ⟨h1, h2⟩
  · exact .inr ⟨h1, h2⟩
def M.hit (ss : List Int) (p : Int) (i : Nat) : Bool := decide (at' ss i = p) && !decide (p = -1)
end Go.Proofs.Ytcibaankajfhlaa
end
section
set_option maxRecDepth 100000
namespace Go.Proofs.Ytcibaankajfhlaa
open Go Go.RowKit Go.Proofs.Ytcibaankajfhlaa.E2
theorem cnt_p (zs : List Int) (n : Nat) (TS : Nat) (hn : n ≤ 500) (hz : zs.length = n * 4)  : Meets cfx 0 60 [.slo 0 n] [some (.cells (ints zs) TS .ro)] (V.mp 1) [some (.cells (ints zs) TS .ro), some (mapB [false, false, false, false] (M.cnt zs n))] := by
  refine Meets.post (meets_ev cfx_mixed cfx_call (Nat.zero_le _) (Nat.le_of_ble_eq_true rfl) (n := 40) (ans := [Ans.go, Ans.loop (Ex.exit 0) [.slo 0 n, uV, V.raw (Value.map none), V.mp 1, uV, .any 5, .any 6, .any 7, V.mp 1, .slo 0 n, iV (↑n : Int), iV (↑n : Int), .any 12, .any 13, .any 14, .any 15, .any 16, .any 17, .any 18, .any 19, .any 20, .any 21, .any 22, .any 23, .any 24, .any 25, .any 26, .any 27, .any 28, .any 29, .any 30, .any 31, .any 32, .any 33, uV] [some (.cells (ints zs) TS .ro), some (mapB [false, false, false, false] (M.cnt zs n))]]) (v := V.mp 1) (h' := [some (.cells (ints zs) TS .ro), some (mapB [false, false, false, false] (M.cnt zs n))]) (cons := [(Runs cfx 0 2 none (.loop (loopOf cfx.P 60 0)) [.slo 0 n, uV, V.raw (Value.map none), V.mp 1, uV, uV, uV, uV, V.mp 1, .slo 0 n, iV (↑n : Int), iV 0, uV, uV, uV, uV, uV, uV, uV, uV, uV, uV, uV, uV, uV, uV, uV, uV, uV, uV, uV, uV, uV, uV, uV] [some (.cells (ints zs) TS .ro), some (Blk.mp [] [] [] 0)] (Ex.exit 0) [.slo 0 n, uV, V.raw (Value.map none), V.mp 1, uV, .any 5, .any 6, .any 7, V.mp 1, .slo 0 n, iV (↑n : Int), iV (↑n : Int), .any 12, .any 13, .any 14, .any 15, .any 16, .any 17, .any 18, .any 19, .any 20, .any 21, .any 22, .any 23, .any 24, .any 25, .any 26, .any 27, .any 28, .any 29, .any 30, .any 31, .any 32, .any 33, uV] [some (.cells (ints zs) TS .ro), some (mapB [false, false, false, false] (M.cnt zs n))])]) (by kernel_rfl)
    ⟨(by
      refine Runs.pre (fun b e => by cases e) (fun RT RH => ?_) (cnt_loop zs n TS hn hz)
      exact reshape2 (lim := 0) 2 (t := [.slo 0 n, uV, V.raw (Value.map none), V.mp 1, uV, uV, uV, uV, V.mp 1, .slo 0 n, iV (↑n : Int), iV 0, uV, uV, uV, uV, uV, uV, uV, uV, uV, uV, uV, uV, uV, uV, uV, uV, uV, uV, uV, uV, uV, uV, uV]) (h := [some (.cells (ints zs) TS .ro), some (Blk.mp [] [] [] 0)]) cfx_G rfl [] (by kernel_rfl) (by kernel_rfl) (by repeat first | exact ents_nil | refine ents_none ?_ | refine ents_map rfl rfl ?_ | refine ents_raw (ints_all _) rfl rfl ?_ | refine ents_raw (bools_all _) rfl rfl ?_ | refine ents_raw (mix_all _ _) rfl rfl ?_ | refine ents_say rfl rfl rfl rfl ?_ | refine ents_nilC rfl rfl ?_) RT RH), trivial⟩) (by kernel_rfl) (fun RT RH => reshape2 (lim := 0) 1 cfx_G rfl [some 1] (by kernel_rfl) (by kernel_rfl) (by exact (ents_raw (ints_all _) rfl rfl (ents_map rfl rfl (ents_nil)))) RT RH)
theorem slo_p (ss : List Int) (n : Nat) (TA : Nat) (hn : n ≤ 100) (hz : ss.length = n)  : Meets cfx 0 56 [.slo 0 n] [some (.cells (ints ss) TA .ro)] (V.mp 1) [some (.cells (ints ss) TA .ro), some (mapB [] (M.slt ss n))] := by
  refine Meets.post (meets_ev cfx_mixed cfx_call (Nat.zero_le _) (Nat.le_of_ble_eq_true rfl) (n := 40) (ans := [Ans.go, Ans.loop (Ex.exit 0) [.slo 0 n, uV, V.raw (Value.map none), V.mp 1, .any 4, .any 5, V.mp 1, .slo 0 n, iV (↑n : Int), iV (↑n : Int), .any 10, .any 11, .any 12, .any 13, .any 14, .any 15, .any 16, .any 17, .any 18, .any 19, uV] [some (.cells (ints ss) TA .ro), some (mapB [] (M.slt ss n))]]) (v := V.mp 1) (h' := [some (.cells (ints ss) TA .ro), some (mapB [] (M.slt ss n))]) (cons := [(Runs cfx 0 2 none (.loop (loopOf cfx.P 56 0)) [.slo 0 n, uV, V.raw (Value.map none), V.mp 1, uV, uV, V.mp 1, .slo 0 n, iV (↑n : Int), iV 0, uV, uV, uV, uV, uV, uV, uV, uV, uV, uV, uV] [some (.cells (ints ss) TA .ro), some (Blk.mp [] [] [] 0)] (Ex.exit 0) [.slo 0 n, uV, V.raw (Value.map none), V.mp 1, .any 4, .any 5, V.mp 1, .slo 0 n, iV (↑n : Int), iV (↑n : Int), .any 10, .any 11, .any 12, .any 13, .any 14, .any 15, .any 16, .any 17, .any 18, .any 19, uV] [some (.cells (ints ss) TA .ro), some (mapB [] (M.slt ss n))])]) (by kernel_rfl)
    ⟨(by
      refine Runs.pre (fun b e => by cases e) (fun RT RH => ?_) (slo_loop ss n TA hn hz)
      exact reshape2 (lim := 0) 2 (t := [.slo 0 n, uV, V.raw (Value.map none), V.mp 1, uV, uV, V.mp 1, .slo 0 n, iV (↑n : Int), iV 0, uV, uV, uV, uV, uV, uV, uV, uV, uV, uV, uV]) (h := [some (.cells (ints ss) TA .ro), some (Blk.mp [] [] [] 0)]) cfx_G rfl [] (by kernel_rfl) (by kernel_rfl) (by repeat first | exact ents_nil | refine ents_none ?_ | refine ents_map rfl rfl ?_ | refine ents_raw (ints_all _) rfl rfl ?_ | refine ents_raw (bools_all _) rfl rfl ?_ | refine ents_raw (mix_all _ _) rfl rfl ?_ | refine ents_say rfl rfl rfl rfl ?_ | refine ents_nilC rfl rfl ?_) RT RH), trivial⟩) (by kernel_rfl) (fun RT RH => reshape2 (lim := 0) 1 cfx_G rfl [some 1] (by kernel_rfl) (by kernel_rfl) (by exact (ents_raw (ints_all _) rfl rfl (ents_map rfl rfl (ents_nil)))) RT RH)
end Go.Proofs.Ytcibaankajfhlaa
end
section
set_option maxRecDepth 100000
namespace Go.Proofs.Ytcibaankajfhlaa
open Go Go.RowKit Go.Proofs.Ytcibaankajfhlaa.E2
def M.apaB (ss : List Int) (n : Nat) : Bool := (List.range n).all (M.okS ss) && decide (mlen (M.slt ss n) + M.byes ss n = n)
def M.byeB (ss : List Int) (m : Nat) : Bool := !(decide (at' ss (2 * m) = -1) && decide (at' ss (2 * m + 1) = -1))
def M.ckB (ss : List Int) (n : Nat) : Bool := decide (2 ≤ n) && M.sizeB n && M.apaB ss n && (List.range (n / 2)).all (M.byeB ss)
def M.ckE (ss : List Int) (n : Nat) : Int := if 64 < n then 6 else if M.ckB ss n then 0 else 2
theorem M.slt_len (ss : List Int) : ∀ i : Nat, 0 ≤ mlen (M.slt ss i) ∧ mlen (M.slt ss i) ≤ i
  | 0 => ⟨Int.le_refl _, Int.le_refl _⟩
  | i + 1 => by
    have := M.slt_len ss i
    simp only [M.slt]
    split
    · omega
    · rw [mlen_put]
      split <;> omega
noncomputable def iszB (k : Nat) : Bool := match evFunc cfxC 40 45 [.raw (.int .i64 k)] [] 0 [.auto [] []] with
  | some o => (match o.v, o.cons with
    | .raw (.bool b), [] => b == M.sizeB k
    | _, _ => false)
  | none => false
theorem isz_all : (List.range 65).all iszB = true := by kernel_rfl
theorem isz_ok (k : Nat) (hk : k ≤ 64) : Ret cfx 45 [.raw (.int .i64 k)] (.raw (.bool (M.sizeB k))) := by
  have h := List.all_eq_true.1 isz_all k (List.mem_range.2 (by omega))
  unfold iszB at h
  split at h
  · rename_i o ho
    split at h
    · rename_i b hv hc
      have hb : b = M.sizeB k := by simpa using h
      subst hb
      exact retx_conc (fn_of (c := cfxC) cfxW_mixed cfxW_call cfxC_base.1 cfxC_base.2.1 cfxC_base.2.2 (n := 40) (ans := [.auto [] []]) (cons := []) (by show Option.map _ (evFunc cfxC 40 _ _ [] 0 _) = _; rw [ho]; simp [hv, hc]) rfl rfl trivial)
    · cases h
  · cases h
end Go.Proofs.Ytcibaankajfhlaa
end
section
set_option maxRecDepth 100000
namespace Go.Proofs.Ytcibaankajfhlaa
open Go Go.RowKit Go.Proofs.Ytcibaankajfhlaa.E2
theorem apa_a (ss : List Int) (n : Nat) (TA : Nat) (hn : n ≤ 100) (hz : ss.length = n) (hm0 : 0 ≤ mlen (M.slt ss n)) (hm1 : mlen (M.slt ss n) ≤ 100) (hb0 : 0 ≤ M.byes ss n) (hb1 : M.byes ss n ≤ 100) (hR : Runs cfx 0 1 none (.loop (loopOf cfx.P 49 0)) (apa_T ss n TA 0 0) (apa_H ss n TA 0 0) (.exit 0) (apa_T4 ss n TA (n : Nat) (M.byes ss n)) (apa_H4 ss n TA (n : Nat) (M.byes ss n)))  : Meets cfx 0 49 [.slo 0 n] [some (.cells (ints ss) TA .ro)] (V.raw (.bool (decide (mlen (M.slt ss n) + M.byes ss n = (↑n : Int))))) [some (.cells (ints ss) TA .ro)] := by
  refine Meets.post (meets_ev cfx_mixed cfx_call (Nat.zero_le _) (Nat.le_of_ble_eq_true rfl) (n := 40) (ans := [Ans.go, Ans.loop (Ex.exit 0) [.slo 0 n, uV, V.raw (.bool false), iV (M.byes ss n), uV, .any 5, .slo 0 n, iV (↑n : Int), iV (↑n : Int), .any 9, .any 10, .any 11, .any 12, .any 13, .any 14, .any 15, .any 16, .any 17, .any 18, .any 19, .any 20, .any 21, uV, uV, uV, uV, uV, uV, uV, uV] [some (.cells (ints ss) TA .ro)], Ans.reth (V.mp 1) [some (.cells (ints ss) TA .ro), some (mapB [] (M.slt ss n))], Ans.key (iV (mlen (M.slt ss n)))]) (v := V.raw (.bool (decide (mlen (M.slt ss n) + M.byes ss n = (↑n : Int))))) (h' := [some (.cells (ints ss) TA .ro), some (mapB [] (M.slt ss n))]) (cons := [(Runs cfx 0 1 none (.loop (loopOf cfx.P 49 0)) [.slo 0 n, uV, V.raw (.bool false), iV 0, uV, uV, .slo 0 n, iV (↑n : Int), iV 0, uV, uV, uV, uV, uV, uV, uV, uV, uV, uV, uV, uV, uV, uV, uV, uV, uV, uV, uV, uV, uV] [some (.cells (ints ss) TA .ro)] (Ex.exit 0) [.slo 0 n, uV, V.raw (.bool false), iV (M.byes ss n), uV, .any 5, .slo 0 n, iV (↑n : Int), iV (↑n : Int), .any 9, .any 10, .any 11, .any 12, .any 13, .any 14, .any 15, .any 16, .any 17, .any 18, .any 19, .any 20, .any 21, uV, uV, uV, uV, uV, uV, uV, uV] [some (.cells (ints ss) TA .ro)]), (Meets cfx 0 56 [.slo 0 n] [some (.cells (ints ss) TA .ro)] (V.mp 1) [some (.cells (ints ss) TA .ro), some (mapB [] (M.slt ss n))]), ((mks (M.slt ss n)).length = (mvs' ([] : List Bool) (M.slt ss n)).length ∧ (mks (M.slt ss n)).length = (mbs (M.slt ss n)).length), (goInt (mks (M.slt ss n)).length = (Value.int IntKind.i64 (mlen (M.slt ss n)))), (inR IntKind.i64 (mlen (M.slt ss n) + M.byes ss n))]) (by kernel_rfl)
    ⟨(by
      refine Runs.pre (fun b e => by cases e) (fun RT RH => ?_) (hR)
      exact reshape2 (lim := 0) 1 (t := [.slo 0 n, uV, V.raw (.bool false), iV 0, uV, uV, .slo 0 n, iV (↑n : Int), iV 0, uV, uV, uV, uV, uV, uV, uV, uV, uV, uV, uV, uV, uV, uV, uV, uV, uV, uV, uV, uV, uV]) (h := [some (.cells (ints ss) TA .ro)]) cfx_G rfl [] (by kernel_rfl) (by kernel_rfl) (by repeat first | exact ents_nil | refine ents_none ?_ | refine ents_map rfl rfl ?_ | refine ents_raw (ints_all _) rfl rfl ?_ | refine ents_raw (bools_all _) rfl rfl ?_ | refine ents_raw (mix_all _ _) rfl rfl ?_ | refine ents_say rfl rfl rfl rfl ?_ | refine ents_nilC rfl rfl ?_) RT RH), (by exact below_rm (lim0 := 0) (lim := 0) (N := [some (mapB [] (M.slt ss n))]) rfl rfl (fun k => 0) (fun _ => false) (slo_p ss n TA hn hz) noWr_1 ⟨.inl ⟨_, _, rfl, ints_all _, .inl ⟨rfl, _, rfl⟩⟩, trivial⟩ (fun _ _ => rfl) rfl rfl rfl inj_1 (new_map _ _) (Nat.zero_le _)), mp_len, map_len, inR_i64 (by omega) (by omega), trivial⟩) (by kernel_rfl) (fun RT RH => reshape2 (lim := 0) 1 cfx_G rfl [] (by kernel_rfl) (by kernel_rfl) (by exact (ents_raw (ints_all _) rfl rfl (ents_nil))) RT RH)
theorem apa_b (ss : List Int) (n : Nat) (TA : Nat) (hn : n ≤ 100) (hz : ss.length = n) (hR : Runs cfx 0 1 none (.loop (loopOf cfx.P 49 0)) (apa_T ss n TA 0 0) (apa_H ss n TA 0 0) (.ret) (apa_T2 ss n TA 0 0) (apa_H2 ss n TA 0 0))  : Meets cfx 0 49 [.slo 0 n] [some (.cells (ints ss) TA .ro)] (V.raw (.bool false)) [some (.cells (ints ss) TA .ro)] := by
  refine Meets.post (meets_ev cfx_mixed cfx_call (Nat.zero_le _) (Nat.le_of_ble_eq_true rfl) (n := 40) (ans := [Ans.go, Ans.loop Ex.ret [.any 0, .any 1, V.raw (.bool false), .any 3, .any 4, .any 5, .any 6, .any 7, .any 8, .any 9, .any 10, .any 11, .any 12, .any 13, .any 14, .any 15, .any 16, .any 17, .any 18, .any 19, .any 20, .any 21, .any 22, .any 23, .any 24, .any 25, .any 26, .any 27, .any 28, .any 29] [some (.cells (ints ss) TA .ro)]]) (v := V.raw (.bool false)) (h' := [some (.cells (ints ss) TA .ro)]) (cons := [(Runs cfx 0 1 none (.loop (loopOf cfx.P 49 0)) [.slo 0 n, uV, V.raw (.bool false), iV 0, uV, uV, .slo 0 n, iV (↑n : Int), iV 0, uV, uV, uV, uV, uV, uV, uV, uV, uV, uV, uV, uV, uV, uV, uV, uV, uV, uV, uV, uV, uV] [some (.cells (ints ss) TA .ro)] (Ex.ret) [.any 0, .any 1, V.raw (.bool false), .any 3, .any 4, .any 5, .any 6, .any 7, .any 8, .any 9, .any 10, .any 11, .any 12, .any 13, .any 14, .any 15, .any 16, .any 17, .any 18, .any 19, .any 20, .any 21, .any 22, .any 23, .any 24, .any 25, .any 26, .any 27, .any 28, .any 29] [some (.cells (ints ss) TA .ro)])]) (by kernel_rfl)
    ⟨(by
      refine Runs.pre (fun b e => by cases e) (fun RT RH => ?_) (hR)
      exact reshape2 (lim := 0) 1 (t := [.slo 0 n, uV, V.raw (.bool false), iV 0, uV, uV, .slo 0 n, iV (↑n : Int), iV 0, uV, uV, uV, uV, uV, uV, uV, uV, uV, uV, uV, uV, uV, uV, uV, uV, uV, uV, uV, uV, uV]) (h := [some (.cells (ints ss) TA .ro)]) cfx_G rfl [] (by kernel_rfl) (by kernel_rfl) (by repeat first | exact ents_nil | refine ents_none ?_ | refine ents_map rfl rfl ?_ | refine ents_raw (ints_all _) rfl rfl ?_ | refine ents_raw (bools_all _) rfl rfl ?_ | refine ents_raw (mix_all _ _) rfl rfl ?_ | refine ents_say rfl rfl rfl rfl ?_ | refine ents_nilC rfl rfl ?_) RT RH), trivial⟩) (by kernel_rfl) (fun RT RH => reshape2 (lim := 0) 1 cfx_G rfl [] (by kernel_rfl) (by kernel_rfl) (by exact (ents_raw (ints_all _) rfl rfl (ents_nil))) RT RH)
end Go.Proofs.Ytcibaankajfhlaa
end
section
set_option maxRecDepth 100000
namespace Go.Proofs.Ytcibaankajfhlaa
open Go Go.RowKit Go.Proofs.Ytcibaankajfhlaa.E2
def cdr_T (ss : List Int) (n : Nat) (TA : Nat) (i : Int) : List V := [.slo 0 n, uV, iV 0, .any 3, .slo 0 n, iV (↑n : Int), V.raw (.bool (decide (64 < (↑n : Int)))), .slo 0 n, iV (↑n : Int), V.raw (.bool (decide ((↑n : Int) < 2))), V.lit false, .slo 0 n, iV (↑n : Int), V.raw (.bool (M.sizeB (↑n : Int))), V.raw (.bool !M.sizeB (↑n : Int)), V.raw (.bool !M.sizeB (↑n : Int)), V.lit false, .slo 0 n, V.raw (.bool (M.apaB ss n)), V.raw (.bool !M.apaB ss n), V.raw (.bool !M.apaB ss n), .slo 0 n, iV (↑n : Int), iV (↑(n / 2) : Int), iV i, .any 25, .any 26, .any 27, .any 28, .any 29, .any 30, .any 31, .any 32, .any 33, .any 34, .any 35, .any 36, .any 37, .any 38, .any 39, .any 40, .any 41, .any 42]
def cdr_H (ss : List Int) (n : Nat) (TA : Nat) (i : Int) : Heap := [some (.cells (ints ss) TA .ro)]
def cdr_T1 (ss : List Int) (n : Nat) (TA : Nat) (i : Int) : List V := [.any 0, .any 1, iV 2, .any 3, .any 4, .any 5, .any 6, .any 7, .any 8, .any 9, .any 10, .any 11, .any 12, .any 13, .any 14, .any 15, .any 16, .any 17, .any 18, .any 19, .any 20, .any 21, .any 22, .any 23, .any 24, .any 25, .any 26, .any 27, .any 28, .any 29, .any 30, .any 31, .any 32, .any 33, .any 34, .any 35, .any 36, .any 37, .any 38, .any 39, .any 40, .any 41, .any 42]
def cdr_H1 (ss : List Int) (n : Nat) (TA : Nat) (i : Int) : Heap := [some (.cells (ints ss) TA .ro)]
theorem cdr_1 (ss : List Int) (n : Nat) (TA : Nat) (hn2 : 2 ≤ n) (hs : M.sizeB n = true) (ha : M.apaB ss n = true) (hn64 : n ≤ 64) (hA : Meets cfx 0 49 [.slo 0 n] [some (.cells (ints ss) TA .ro)] (.raw (.bool (M.apaB ss n))) [some (.cells (ints ss) TA .ro)]) (i : Int) (hi0 : 0 ≤ i) (hi1 : i ≤ 100) (hn : n ≤ 64) (hz : ss.length = n) (f0 : i < (↑(n / 2) : Int)) (f1 : at' ss ((2 * i).toNat * 1) = (-1 : Int)) (f2 : at' ss ((2 * i + (1 : Int)).toNat * 1) = (-1 : Int)) : Runs cfx 0 1 none (loopOf cfx.P 18 0) (cdr_T ss n TA i) (cdr_H ss n TA i) (Ex.ret) (cdr_T1 ss n TA i) (cdr_H1 ss n TA i) := by
  refine Runs.post (t1 := [.slo 0 n, uV, iV 2, iV i, .slo 0 n, iV (↑n : Int), V.raw (.bool (decide (64 < (↑n : Int)))), .slo 0 n, iV (↑n : Int), V.raw (.bool (decide ((↑n : Int) < 2))), V.lit false, .slo 0 n, iV (↑n : Int), V.raw (.bool (M.sizeB (↑n : Int))), V.raw (.bool !M.sizeB (↑n : Int)), V.raw (.bool !M.sizeB (↑n : Int)), V.lit false, .slo 0 n, V.raw (.bool (M.apaB ss n)), V.raw (.bool !M.apaB ss n), V.raw (.bool !M.apaB ss n), .slo 0 n, iV (↑n : Int), iV (↑(n / 2) : Int), iV i, V.raw (.bool (decide (i < (↑(n / 2) : Int)))), iV i, .slo 0 n, iV i, iV (2 * i), V.ptr 0 ((2 * i).toNat * 1), iV (at' ss ((2 * i).toNat * 1)), V.raw (.bool (decide (at' ss ((2 * i).toNat * 1) = (-1 : Int)))), V.lit true, .slo 0 n, iV i, iV (2 * i), iV (2 * i + 1), V.ptr 0 ((2 * i + (1 : Int)).toNat * 1), iV (at' ss ((2 * i + (1 : Int)).toNat * 1)), V.raw (.bool (decide (at' ss ((2 * i + (1 : Int)).toNat * 1) = (-1 : Int)))), V.raw (.bool (decide (at' ss ((2 * i + (1 : Int)).toNat * 1) = (-1 : Int)))), .any 42]) (h1 := [some (.cells (ints ss) TA .ro)]) (body_of cfx_mixed cfx_call (Nat.zero_le _) (rnd := none) (fi := 0) (k := 0) (n := 40) (n0 := 1) (ans := [Ans.br true, Ans.val 0 (iV (at' ss ((2 * i).toNat * 1))), Ans.br true, Ans.val 0 (iV (at' ss ((2 * i + (1 : Int)).toNat * 1))), Ans.br true, Ans.br true]) (cons := [(decide (i < (↑(n / 2) : Int)) = true), (inR IntKind.i64 (2 * i)), ((0 : Int) ≤ (2 : Int) * i ∧ 2 * i < (↑n : Int)), (loadRow cfx 3 (ints ss) ((2 * i).toNat * 1) = some (iV (at' ss ((2 * i).toNat * 1)))), (decide (at' ss ((2 * i).toNat * 1) = (-1 : Int)) = true), (inR IntKind.i64 (2 * i)), (inR IntKind.i64 (2 * i + 1)), ((0 : Int) ≤ (2 : Int) * i + 1 ∧ 2 * i + 1 < (↑n : Int)), (loadRow cfx 3 (ints ss) ((2 * i + (1 : Int)).toNat * 1) = some (iV (at' ss ((2 * i + (1 : Int)).toNat * 1)))), (true = true), (decide (at' ss ((2 * i + (1 : Int)).toNat * 1) = (-1 : Int)) = true)]) (by kernel_rfl)
    ⟨(by first | omega | (simp; omega) | (simp_all; omega)), inR_i64 (by omega) (by omega), (by omega), (load_one (by kernel_rfl) (by omega)), (by first | assumption | exact flg (by first | assumption | omega) | (simp_all; done)), inR_i64 (by omega) (by omega), inR_i64 (by omega) (by omega), (by omega), (load_one (by kernel_rfl) (by omega)), rfl, (by first | assumption | exact flg (by first | assumption | omega) | (simp_all; done)), trivial⟩ (Nat.le_of_ble_eq_true rfl) (Nat.le_of_ble_eq_true rfl) noRnd (noRanges (by kernel_rfl))) (fun RT RH => reshape2 (lim := 0) 1 cfx_G rfl [] (by kernel_rfl) (by kernel_rfl) (by exact (ents_raw (ints_all _) rfl rfl (ents_nil))) RT RH)
theorem cdr_2 (ss : List Int) (n : Nat) (TA : Nat) (hn2 : 2 ≤ n) (hs : M.sizeB n = true) (ha : M.apaB ss n = true) (hn64 : n ≤ 64) (hA : Meets cfx 0 49 [.slo 0 n] [some (.cells (ints ss) TA .ro)] (.raw (.bool (M.apaB ss n))) [some (.cells (ints ss) TA .ro)]) (i : Int) (hi0 : 0 ≤ i) (hi1 : i ≤ 100) (hn : n ≤ 64) (hz : ss.length = n) (f0 : i < (↑(n / 2) : Int)) (f1 : at' ss ((2 * i).toNat * 1) = (-1 : Int)) (f2 : ¬at' ss ((2 * i + (1 : Int)).toNat * 1) = (-1 : Int)) : Runs cfx 0 1 none (loopOf cfx.P 18 0) (cdr_T ss n TA i) (cdr_H ss n TA i) (Ex.normal) (cdr_T ss n TA (i + 1)) (cdr_H ss n TA (i + 1)) := by
  refine Runs.post (t1 := [.slo 0 n, uV, iV 0, iV i, .slo 0 n, iV (↑n : Int), V.raw (.bool (decide (64 < (↑n : Int)))), .slo 0 n, iV (↑n : Int), V.raw (.bool (decide ((↑n : Int) < 2))), V.lit false, .slo 0 n, iV (↑n : Int), V.raw (.bool (M.sizeB (↑n : Int))), V.raw (.bool !M.sizeB (↑n : Int)), V.raw (.bool !M.sizeB (↑n : Int)), V.lit false, .slo 0 n, V.raw (.bool (M.apaB ss n)), V.raw (.bool !M.apaB ss n), V.raw (.bool !M.apaB ss n), .slo 0 n, iV (↑n : Int), iV (↑(n / 2) : Int), iV (i + 1), V.raw (.bool (decide (i < (↑(n / 2) : Int)))), iV i, .slo 0 n, iV i, iV (2 * i), V.ptr 0 ((2 * i).toNat * 1), iV (at' ss ((2 * i).toNat * 1)), V.raw (.bool (decide (at' ss ((2 * i).toNat * 1) = (-1 : Int)))), V.lit true, .slo 0 n, iV i, iV (2 * i), iV (2 * i + 1), V.ptr 0 ((2 * i + (1 : Int)).toNat * 1), iV (at' ss ((2 * i + (1 : Int)).toNat * 1)), V.raw (.bool (decide (at' ss ((2 * i + (1 : Int)).toNat * 1) = (-1 : Int)))), V.raw (.bool (decide (at' ss ((2 * i + (1 : Int)).toNat * 1) = (-1 : Int)))), iV (i + 1)]) (h1 := [some (.cells (ints ss) TA .ro)]) (body_of cfx_mixed cfx_call (Nat.zero_le _) (rnd := none) (fi := 0) (k := 0) (n := 40) (n0 := 1) (ans := [Ans.br true, Ans.val 0 (iV (at' ss ((2 * i).toNat * 1))), Ans.br true, Ans.val 0 (iV (at' ss ((2 * i + (1 : Int)).toNat * 1))), Ans.br true, Ans.br false]) (cons := [(decide (i < (↑(n / 2) : Int)) = true), (inR IntKind.i64 (2 * i)), ((0 : Int) ≤ (2 : Int) * i ∧ 2 * i < (↑n : Int)), (loadRow cfx 3 (ints ss) ((2 * i).toNat * 1) = some (iV (at' ss ((2 * i).toNat * 1)))), (decide (at' ss ((2 * i).toNat * 1) = (-1 : Int)) = true), (inR IntKind.i64 (2 * i)), (inR IntKind.i64 (2 * i + 1)), ((0 : Int) ≤ (2 : Int) * i + 1 ∧ 2 * i + 1 < (↑n : Int)), (loadRow cfx 3 (ints ss) ((2 * i + (1 : Int)).toNat * 1) = some (iV (at' ss ((2 * i + (1 : Int)).toNat * 1)))), (true = true), (decide (at' ss ((2 * i + (1 : Int)).toNat * 1) = (-1 : Int)) = false), (inR IntKind.i64 (i + 1))]) (by kernel_rfl)
    ⟨(by first | omega | (simp; omega) | (simp_all; omega)), inR_i64 (by omega) (by omega), (by omega), (load_one (by kernel_rfl) (by omega)), (by first | assumption | exact flg (by first | assumption | omega) | (simp_all; done)), inR_i64 (by omega) (by omega), inR_i64 (by omega) (by omega), (by omega), (load_one (by kernel_rfl) (by omega)), rfl, (by first | assumption | exact flg (by first | assumption | omega) | (simp_all; done)), inR_i64 (by omega) (by omega), trivial⟩ (Nat.le_of_ble_eq_true rfl) (Nat.le_of_ble_eq_true rfl) noRnd (noRanges (by kernel_rfl))) (fun RT RH => reshape2 (lim := 0) 1 cfx_G rfl [] (by kernel_rfl) (by kernel_rfl) (by exact (ents_raw (ints_all _) rfl rfl (ents_nil))) RT RH)
theorem cdr_3 (ss : List Int) (n : Nat) (TA : Nat) (hn2 : 2 ≤ n) (hs : M.sizeB n = true) (ha : M.apaB ss n = true) (hn64 : n ≤ 64) (hA : Meets cfx 0 49 [.slo 0 n] [some (.cells (ints ss) TA .ro)] (.raw (.bool (M.apaB ss n))) [some (.cells (ints ss) TA .ro)]) (i : Int) (hi0 : 0 ≤ i) (hi1 : i ≤ 100) (hn : n ≤ 64) (hz : ss.length = n) (f0 : i < (↑(n / 2) : Int)) (f1 : ¬at' ss ((2 * i).toNat * 1) = (-1 : Int)) : Runs cfx 0 1 none (loopOf cfx.P 18 0) (cdr_T ss n TA i) (cdr_H ss n TA i) (Ex.normal) (cdr_T ss n TA (i + 1)) (cdr_H ss n TA (i + 1)) := by
  refine Runs.post (t1 := [.slo 0 n, uV, iV 0, iV i, .slo 0 n, iV (↑n : Int), V.raw (.bool (decide (64 < (↑n : Int)))), .slo 0 n, iV (↑n : Int), V.raw (.bool (decide ((↑n : Int) < 2))), V.lit false, .slo 0 n, iV (↑n : Int), V.raw (.bool (M.sizeB (↑n : Int))), V.raw (.bool !M.sizeB (↑n : Int)), V.raw (.bool !M.sizeB (↑n : Int)), V.lit false, .slo 0 n, V.raw (.bool (M.apaB ss n)), V.raw (.bool !M.apaB ss n), V.raw (.bool !M.apaB ss n), .slo 0 n, iV (↑n : Int), iV (↑(n / 2) : Int), iV (i + 1), V.raw (.bool (decide (i < (↑(n / 2) : Int)))), iV i, .slo 0 n, iV i, iV (2 * i), V.ptr 0 ((2 * i).toNat * 1), iV (at' ss ((2 * i).toNat * 1)), V.raw (.bool (decide (at' ss ((2 * i).toNat * 1) = (-1 : Int)))), V.lit false, uV, uV, uV, uV, uV, uV, uV, V.raw (.bool false), iV (i + 1)]) (h1 := [some (.cells (ints ss) TA .ro)]) (body_of cfx_mixed cfx_call (Nat.zero_le _) (rnd := none) (fi := 0) (k := 0) (n := 40) (n0 := 1) (ans := [Ans.br true, Ans.val 0 (iV (at' ss ((2 * i).toNat * 1))), Ans.br false, Ans.br false, Ans.br false]) (cons := [(decide (i < (↑(n / 2) : Int)) = true), (inR IntKind.i64 (2 * i)), ((0 : Int) ≤ (2 : Int) * i ∧ 2 * i < (↑n : Int)), (loadRow cfx 3 (ints ss) ((2 * i).toNat * 1) = some (iV (at' ss ((2 * i).toNat * 1)))), (decide (at' ss ((2 * i).toNat * 1) = (-1 : Int)) = false), (false = false), (false = false), (inR IntKind.i64 (i + 1))]) (by kernel_rfl)
    ⟨(by first | omega | (simp; omega) | (simp_all; omega)), inR_i64 (by omega) (by omega), (by omega), (load_one (by kernel_rfl) (by omega)), (by first | assumption | exact flg (by first | assumption | omega) | (simp_all; done)), rfl, rfl, inR_i64 (by omega) (by omega), trivial⟩ (Nat.le_of_ble_eq_true rfl) (Nat.le_of_ble_eq_true rfl) noRnd (noRanges (by kernel_rfl))) (fun RT RH => reshape2 (lim := 0) 1 cfx_G rfl [] (by kernel_rfl) (by kernel_rfl) (by exact (ents_raw (ints_all _) rfl rfl (ents_nil))) RT RH)
def cdr_T4 (ss : List Int) (n : Nat) (TA : Nat) (i : Int) : List V := [.slo 0 n, uV, iV 0, .any 3, .slo 0 n, iV (↑n : Int), V.raw (.bool (decide (64 < (↑n : Int)))), .slo 0 n, iV (↑n : Int), V.raw (.bool (decide ((↑n : Int) < 2))), V.lit false, .slo 0 n, iV (↑n : Int), V.raw (.bool (M.sizeB (↑n : Int))), V.raw (.bool !M.sizeB (↑n : Int)), V.raw (.bool !M.sizeB (↑n : Int)), V.lit false, .slo 0 n, V.raw (.bool (M.apaB ss n)), V.raw (.bool !M.apaB ss n), V.raw (.bool !M.apaB ss n), .slo 0 n, iV (↑n : Int), iV (↑(n / 2) : Int), iV i, .any 25, .any 26, .any 27, .any 28, .any 29, .any 30, .any 31, .any 32, .any 33, .any 34, .any 35, .any 36, .any 37, .any 38, .any 39, .any 40, .any 41, .any 42]
def cdr_H4 (ss : List Int) (n : Nat) (TA : Nat) (i : Int) : Heap := [some (.cells (ints ss) TA .ro)]
theorem cdr_4 (ss : List Int) (n : Nat) (TA : Nat) (hn2 : 2 ≤ n) (hs : M.sizeB n = true) (ha : M.apaB ss n = true) (hn64 : n ≤ 64) (hA : Meets cfx 0 49 [.slo 0 n] [some (.cells (ints ss) TA .ro)] (.raw (.bool (M.apaB ss n))) [some (.cells (ints ss) TA .ro)]) (i : Int) (hi0 : 0 ≤ i) (hi1 : i ≤ 100) (hn : n ≤ 64) (hz : ss.length = n) (f0 : ¬i < (↑(n / 2) : Int)) : Runs cfx 0 1 none (loopOf cfx.P 18 0) (cdr_T ss n TA i) (cdr_H ss n TA i) (Ex.exit 0) (cdr_T4 ss n TA i) (cdr_H4 ss n TA i) := by
  refine Runs.post (t1 := [.slo 0 n, uV, iV 0, .any 3, .slo 0 n, iV (↑n : Int), V.raw (.bool (decide (64 < (↑n : Int)))), .slo 0 n, iV (↑n : Int), V.raw (.bool (decide ((↑n : Int) < 2))), V.lit false, .slo 0 n, iV (↑n : Int), V.raw (.bool (M.sizeB (↑n : Int))), V.raw (.bool !M.sizeB (↑n : Int)), V.raw (.bool !M.sizeB (↑n : Int)), V.lit false, .slo 0 n, V.raw (.bool (M.apaB ss n)), V.raw (.bool !M.apaB ss n), V.raw (.bool !M.apaB ss n), .slo 0 n, iV (↑n : Int), iV (↑(n / 2) : Int), iV i, V.raw (.bool (decide (i < (↑(n / 2) : Int)))), .any 26, .any 27, .any 28, .any 29, .any 30, .any 31, .any 32, .any 33, .any 34, .any 35, .any 36, .any 37, .any 38, .any 39, .any 40, .any 41, .any 42]) (h1 := [some (.cells (ints ss) TA .ro)]) (body_of cfx_mixed cfx_call (Nat.zero_le _) (rnd := none) (fi := 0) (k := 0) (n := 40) (n0 := 1) (ans := [Ans.br false]) (cons := [(decide (i < (↑(n / 2) : Int)) = false)]) (by kernel_rfl)
    ⟨(by first | omega | (simp; omega) | (simp_all; omega)), trivial⟩ (Nat.le_of_ble_eq_true rfl) (Nat.le_of_ble_eq_true rfl) noRnd (noRanges (by kernel_rfl))) (fun RT RH => reshape2 (lim := 0) 1 cfx_G rfl [] (by kernel_rfl) (by kernel_rfl) (by exact (ents_raw (ints_all _) rfl rfl (ents_nil))) RT RH)
end Go.Proofs.Ytcibaankajfhlaa
end
section
set_option maxRecDepth 100000
namespace Go.Proofs.Ytcibaankajfhlaa
open Go Go.RowKit Go.Proofs.Ytcibaankajfhlaa.E2
theorem cdr_loop (ss : List Int) (n : Nat) (TA : Nat) (hn2 : 2 ≤ n) (hs : M.sizeB n = true) (ha : M.apaB ss n = true) (hn64 : n ≤ 64) (hA : Meets cfx 0 49 [.slo 0 n] [some (.cells (ints ss) TA .ro)] (.raw (.bool (M.apaB ss n))) [some (.cells (ints ss) TA .ro)]) (hz : ss.length = n) :
    ((List.range (n / 2)).all (M.byeB ss) = true ∧ Runs cfx 0 1 none (.loop (loopOf cfx.P 18 0)) (cdr_T ss n TA 0) (cdr_H ss n TA 0) (.exit 0) (cdr_T4 ss n TA ((n / 2) : Nat)) (cdr_H4 ss n TA ((n / 2) : Nat))) ∨ ((List.range (n / 2)).all (M.byeB ss) = false ∧ Runs cfx 0 1 none (.loop (loopOf cfx.P 18 0)) (cdr_T ss n TA 0) (cdr_H ss n TA 0) (.ret) (cdr_T1 ss n TA 0) (cdr_H1 ss n TA 0)) := by
  have key := upto_find (c := cfx) (lim := 0) (n0 := 1) (x := loopOf cfx.P 18 0) noRnd (M.byeB ss) (fun i => cdr_T ss n TA (i : Nat)) (fun i => cdr_H ss n TA (i : Nat)) (n / 2) (e := .exit 0) (e1 := .ret) (Te := cdr_T4 ss n TA ((n / 2) : Nat)) (He := cdr_H4 ss n TA ((n / 2) : Nat)) (fun _ => cdr_T1 ss n TA 0) (fun _ => cdr_H1 ss n TA 0) (by simp) (by simp) (fun i hi hg => by
    by_cases g1 : at' ss (2 * i) = -1
    · by_cases g2 : at' ss (2 * i + 1) = -1
      · simp [M.byeB, g1, g2] at hg
      · exact cdr_2 ss n TA hn2 hs ha hn64 hA (i : Nat) (by omega) (by omega) hn64 hz (by omega) (by rw [show (2 * ((i : Nat) : Int)).toNat * 1 = 2 * i by omega]; exact g1) (by rw [show (2 * ((i : Nat) : Int) + 1).toNat * 1 = 2 * i + 1 by omega]; exact g2)
    · exact cdr_3 ss n TA hn2 hs ha hn64 hA (i : Nat) (by omega) (by omega) hn64 hz (by omega) (by rw [show (2 * ((i : Nat) : Int)).toNat * 1 = 2 * i by omega]; exact g1)) (fun i hi hg => by
    have hg2 : at' ss (2 * i) = -1 ∧ at' ss (2 * i + 1) = -1 := by simpa [M.byeB] using hg
    exact cdr_1 ss n TA hn2 hs ha hn64 hA (i : Nat) (by omega) (by omega) hn64 hz (by omega) (by rw [show (2 * ((i : Nat) : Int)).toNat * 1 = 2 * i by omega]; exact hg2.1) (by rw [show (2 * ((i : Nat) : Int) + 1).toNat * 1 = 2 * i + 1 by omega]; exact hg2.2)) (by
    exact cdr_4 ss n TA hn2 hs ha hn64 hA ((n / 2 : Nat) : Int) (by omega) (by omega) hn64 hz (by omega))
  rcases key with ⟨h1, h2⟩ | ⟨h1, i, _, _, _, h2⟩
  · exact .inl ⟨h1, h2⟩
  · exact .inr ⟨h1, h2⟩
def M.bst (zs : List Int) (i : Nat) (k : Int) (j : Nat) : Int := if mhas (M.cnt zs i) k then at' (mget (M.cnt zs i) k) j else 0
end Go.Proofs.Ytcibaankajfhlaa
end
section
set_option maxRecDepth 100000
namespace Go.Proofs.Ytcibaankajfhlaa
open Go Go.RowKit Go.Proofs.Ytcibaankajfhlaa.E2
theorem areApart_ok (ss : List Int) (n : Nat) (TA : Nat) (hn : n ≤ 100) (hz : ss.length = n) : Meets cfx 0 49 [.slo 0 n] [some (.cells (ints ss) TA .ro)] (.raw (.bool (M.apaB ss n))) [some (.cells (ints ss) TA .ro)] := by
  unfold M.apaB
  have h1 := M.slt_len ss n
  have h2 := M.byes_le ss n
  rcases apa_loop ss n TA hn hz with ⟨h3, h4⟩ | ⟨h3, h4⟩
  · rw [h3, Bool.true_and]
    exact apa_a ss n TA hn hz (by omega) (by omega) (by omega) (by omega) h4
  · rw [h3, Bool.false_and]
    exact apa_b ss n TA hn hz h4
theorem cd_a (ss : List Int) (n : Nat) (TA : Nat) (hn : 64 < n) (hn2 : n ≤ 100)  : Meets cfx 0 18 [.slo 0 n] [some (.cells (ints ss) TA .ro)] (iV 6) [some (.cells (ints ss) TA .ro)] := by
  refine Meets.post (meets_ev cfx_mixed cfx_call (Nat.zero_le _) (Nat.le_of_ble_eq_true rfl) (n := 40) (ans := [Ans.go, Ans.br true]) (v := (iV 6)) (h' := [some (.cells (ints ss) TA .ro)]) (cons := [(decide (64 < (↑n : Int)) = true)]) (by kernel_rfl)
    ⟨(by first | omega | (simp; omega) | (simp_all; omega)), trivial⟩) (by kernel_rfl) (fun RT RH => reshape2 (lim := 0) 1 cfx_G rfl [] (by kernel_rfl) (by kernel_rfl) (by exact (ents_raw (ints_all _) rfl rfl (ents_nil))) RT RH)
theorem cd_b (ss : List Int) (n : Nat) (TA : Nat) (hn : n < 2)  : Meets cfx 0 18 [.slo 0 n] [some (.cells (ints ss) TA .ro)] (iV 2) [some (.cells (ints ss) TA .ro)] := by
  refine Meets.post (meets_ev cfx_mixed cfx_call (Nat.zero_le _) (Nat.le_of_ble_eq_true rfl) (n := 40) (ans := [Ans.go, Ans.br false, Ans.br true, Ans.br true, Ans.br true, Ans.br true, Ans.br true]) (v := (iV 2)) (h' := [some (.cells (ints ss) TA .ro)]) (cons := [(decide (64 < (↑n : Int)) = false), (decide ((↑n : Int) < 2) = true), (true = true), (true = true), (true = true), (true = true)]) (by kernel_rfl)
    ⟨(by first | omega | (simp; omega) | (simp_all; omega)), (by first | omega | (simp; omega) | (simp_all; omega)), rfl, rfl, rfl, rfl, trivial⟩) (by kernel_rfl) (fun RT RH => reshape2 (lim := 0) 1 cfx_G rfl [] (by kernel_rfl) (by kernel_rfl) (by exact (ents_raw (ints_all _) rfl rfl (ents_nil))) RT RH)
theorem cd_c (ss : List Int) (n : Nat) (TA : Nat) (hn : 2 ≤ n) (hn64 : n ≤ 64) (hs : M.sizeB n = false)  : Meets cfx 0 18 [.slo 0 n] [some (.cells (ints ss) TA .ro)] (iV 2) [some (.cells (ints ss) TA .ro)] := by
  refine Meets.post (meets_ev cfx_mixed cfx_call (Nat.zero_le _) (Nat.le_of_ble_eq_true rfl) (n := 40) (ans := [Ans.go, Ans.br false, Ans.br false, Ans.ret (V.raw (.bool (M.sizeB (↑n : Int)))), Ans.br false, Ans.br true, Ans.br true, Ans.br true]) (v := (iV 2)) (h' := [some (.cells (ints ss) TA .ro)]) (cons := [(decide (64 < (↑n : Int)) = false), (decide ((↑n : Int) < 2) = false), (Ret cfx 45 [iV (↑n : Int)] (V.raw (.bool (M.sizeB (↑n : Int))))), (false = false), ((!M.sizeB (↑n : Int)) = true), (true = true), (true = true)]) (by kernel_rfl)
    ⟨(by first | omega | (simp; omega) | (simp_all; omega)), (by first | omega | (simp; omega) | (simp_all; omega)), (isz_ok n hn64), rfl, (by first | assumption | exact flg (by first | assumption | omega) | (simp_all; done)), rfl, rfl, trivial⟩) (by kernel_rfl) (fun RT RH => reshape2 (lim := 0) 1 cfx_G rfl [] (by kernel_rfl) (by kernel_rfl) (by exact (ents_raw (ints_all _) rfl rfl (ents_nil))) RT RH)
theorem cd_d (ss : List Int) (n : Nat) (TA : Nat) (hn : 2 ≤ n) (hn64 : n ≤ 64) (hs : M.sizeB n = true) (ha : M.apaB ss n = false) (hA : Meets cfx 0 49 [.slo 0 n] [some (.cells (ints ss) TA .ro)] (.raw (.bool (M.apaB ss n))) [some (.cells (ints ss) TA .ro)])  : Meets cfx 0 18 [.slo 0 n] [some (.cells (ints ss) TA .ro)] (iV 2) [some (.cells (ints ss) TA .ro)] := by
  refine Meets.post (meets_ev cfx_mixed cfx_call (Nat.zero_le _) (Nat.le_of_ble_eq_true rfl) (n := 40) (ans := [Ans.go, Ans.br false, Ans.br false, Ans.ret (V.raw (.bool (M.sizeB (↑n : Int)))), Ans.br false, Ans.br false, Ans.reth (V.raw (.bool (M.apaB ss n))) [some (.cells (ints ss) TA .ro)], Ans.br false, Ans.br true]) (v := (iV 2)) (h' := [some (.cells (ints ss) TA .ro)]) (cons := [(decide (64 < (↑n : Int)) = false), (decide ((↑n : Int) < 2) = false), (Ret cfx 45 [iV (↑n : Int)] (V.raw (.bool (M.sizeB (↑n : Int))))), (false = false), ((!M.sizeB (↑n : Int)) = false), (Meets cfx 0 49 [.slo 0 n] [some (.cells (ints ss) TA .ro)] (V.raw (.bool (M.apaB ss n))) [some (.cells (ints ss) TA .ro)]), (false = false), ((!M.apaB ss n) = true)]) (by kernel_rfl)
    ⟨(by first | omega | (simp; omega) | (simp_all; omega)), (by first | omega | (simp; omega) | (simp_all; omega)), (isz_ok n hn64), rfl, (by first | assumption | exact flg (by first | assumption | omega) | (simp_all; done)), (by exact below_rm (lim0 := 0) (lim := 0) (N := []) rfl rfl (fun k => 0) (fun _ => false) (hA) noWr_1 ⟨.inl ⟨_, _, rfl, ints_all _, .inl ⟨rfl, _, rfl⟩⟩, trivial⟩ (fun _ _ => rfl) rfl rfl rfl inj_1 new_none (Nat.zero_le _)), rfl, (by first | assumption | exact flg (by first | assumption | omega) | (simp_all; done)), trivial⟩) (by kernel_rfl) (fun RT RH => reshape2 (lim := 0) 1 cfx_G rfl [] (by kernel_rfl) (by kernel_rfl) (by exact (ents_raw (ints_all _) rfl rfl (ents_nil))) RT RH)
theorem cd_e (ss : List Int) (n : Nat) (TA : Nat) (hn : 2 ≤ n) (hn64 : n ≤ 64) (hs : M.sizeB n = true) (ha : M.apaB ss n = true) (hA : Meets cfx 0 49 [.slo 0 n] [some (.cells (ints ss) TA .ro)] (.raw (.bool (M.apaB ss n))) [some (.cells (ints ss) TA .ro)]) (hR : Runs cfx 0 1 none (.loop (loopOf cfx.P 18 0)) (cdr_T ss n TA 0) (cdr_H ss n TA 0) (.exit 0) (cdr_T4 ss n TA (n / 2 : Nat)) (cdr_H4 ss n TA (n / 2 : Nat)))  : Meets cfx 0 18 [.slo 0 n] [some (.cells (ints ss) TA .ro)] (iV 0) [some (.cells (ints ss) TA .ro)] := by
  refine Meets.post (meets_ev cfx_mixed cfx_call (Nat.zero_le _) (Nat.le_of_ble_eq_true rfl) (n := 40) (ans := [Ans.go, Ans.br false, Ans.br false, Ans.ret (V.raw (.bool (M.sizeB (↑n : Int)))), Ans.br false, Ans.br false, Ans.reth (V.raw (.bool (M.apaB ss n))) [some (.cells (ints ss) TA .ro)], Ans.br false, Ans.br false, Ans.loop (Ex.exit 0) [.slo 0 n, uV, iV 0, .any 3, .slo 0 n, iV (↑n : Int), V.raw (.bool (decide (64 < (↑n : Int)))), .slo 0 n, iV (↑n : Int), V.raw (.bool (decide ((↑n : Int) < 2))), V.lit false, .slo 0 n, iV (↑n : Int), V.raw (.bool (M.sizeB (↑n : Int))), V.raw (.bool !M.sizeB (↑n : Int)), V.raw (.bool !M.sizeB (↑n : Int)), V.lit false, .slo 0 n, V.raw (.bool (M.apaB ss n)), V.raw (.bool !M.apaB ss n), V.raw (.bool !M.apaB ss n), .slo 0 n, iV (↑n : Int), iV (↑(n / 2) : Int), iV (↑(n / 2) : Int), .any 25, .any 26, .any 27, .any 28, .any 29, .any 30, .any 31, .any 32, .any 33, .any 34, .any 35, .any 36, .any 37, .any 38, .any 39, .any 40, .any 41, .any 42] [some (.cells (ints ss) TA .ro)]]) (v := (iV 0)) (h' := [some (.cells (ints ss) TA .ro)]) (cons := [(decide (64 < (↑n : Int)) = false), (decide ((↑n : Int) < 2) = false), (Ret cfx 45 [iV (↑n : Int)] (V.raw (.bool (M.sizeB (↑n : Int))))), (false = false), ((!M.sizeB (↑n : Int)) = false), (Meets cfx 0 49 [.slo 0 n] [some (.cells (ints ss) TA .ro)] (V.raw (.bool (M.apaB ss n))) [some (.cells (ints ss) TA .ro)]), (false = false), ((!M.apaB ss n) = false), ((2 : Int) ≠ (0 : Int)), (inR IntKind.i64 (↑(n / 2) : Int)), (Runs cfx 0 1 none (.loop (loopOf cfx.P 18 0)) [.slo 0 n, uV, iV 0, uV, .slo 0 n, iV (↑n : Int), V.raw (.bool (decide (64 < (↑n : Int)))), .slo 0 n, iV (↑n : Int), V.raw (.bool (decide ((↑n : Int) < 2))), V.lit false, .slo 0 n, iV (↑n : Int), V.raw (.bool (M.sizeB (↑n : Int))), V.raw (.bool !M.sizeB (↑n : Int)), V.raw (.bool !M.sizeB (↑n : Int)), V.lit false, .slo 0 n, V.raw (.bool (M.apaB ss n)), V.raw (.bool !M.apaB ss n), V.raw (.bool !M.apaB ss n), .slo 0 n, iV (↑n : Int), iV (↑(n / 2) : Int), iV 0, uV, uV, uV, uV, uV, uV, uV, uV, uV, uV, uV, uV, uV, uV, uV, uV, uV, uV] [some (.cells (ints ss) TA .ro)] (Ex.exit 0) [.slo 0 n, uV, iV 0, .any 3, .slo 0 n, iV (↑n : Int), V.raw (.bool (decide (64 < (↑n : Int)))), .slo 0 n, iV (↑n : Int), V.raw (.bool (decide ((↑n : Int) < 2))), V.lit false, .slo 0 n, iV (↑n : Int), V.raw (.bool (M.sizeB (↑n : Int))), V.raw (.bool !M.sizeB (↑n : Int)), V.raw (.bool !M.sizeB (↑n : Int)), V.lit false, .slo 0 n, V.raw (.bool (M.apaB ss n)), V.raw (.bool !M.apaB ss n), V.raw (.bool !M.apaB ss n), .slo 0 n, iV (↑n : Int), iV (↑(n / 2) : Int), iV (↑(n / 2) : Int), .any 25, .any 26, .any 27, .any 28, .any 29, .any 30, .any 31, .any 32, .any 33, .any 34, .any 35, .any 36, .any 37, .any 38, .any 39, .any 40, .any 41, .any 42] [some (.cells (ints ss) TA .ro)])]) (by kernel_rfl)
    ⟨(by first | omega | (simp; omega) | (simp_all; omega)), (by first | omega | (simp; omega) | (simp_all; omega)), (isz_ok n hn64), rfl, (by first | assumption | exact flg (by first | assumption | omega) | (simp_all; done)), (by exact below_rm (lim0 := 0) (lim := 0) (N := []) rfl rfl (fun k => 0) (fun _ => false) (hA) noWr_1 ⟨.inl ⟨_, _, rfl, ints_all _, .inl ⟨rfl, _, rfl⟩⟩, trivial⟩ (fun _ _ => rfl) rfl rfl rfl inj_1 new_none (Nat.zero_le _)), rfl, (by first | assumption | exact flg (by first | assumption | omega) | (simp_all; done)), (by first | assumption | omega | (simp_all; done) | (simp_all; omega)), inR_i64 (by omega) (by omega), (by
      refine Runs.pre (fun b e => by cases e) (fun RT RH => ?_) (hR)
      exact reshape2 (lim := 0) 1 (t := [.slo 0 n, uV, iV 0, uV, .slo 0 n, iV (↑n : Int), V.raw (.bool (decide (64 < (↑n : Int)))), .slo 0 n, iV (↑n : Int), V.raw (.bool (decide ((↑n : Int) < 2))), V.lit false, .slo 0 n, iV (↑n : Int), V.raw (.bool (M.sizeB (↑n : Int))), V.raw (.bool !M.sizeB (↑n : Int)), V.raw (.bool !M.sizeB (↑n : Int)), V.lit false, .slo 0 n, V.raw (.bool (M.apaB ss n)), V.raw (.bool !M.apaB ss n), V.raw (.bool !M.apaB ss n), .slo 0 n, iV (↑n : Int), iV (↑(n / 2) : Int), iV 0, uV, uV, uV, uV, uV, uV, uV, uV, uV, uV, uV, uV, uV, uV, uV, uV, uV, uV]) (h := [some (.cells (ints ss) TA .ro)]) cfx_G rfl [] (by kernel_rfl) (by kernel_rfl) (by repeat first | exact ents_nil | refine ents_none ?_ | refine ents_map rfl rfl ?_ | refine ents_raw (ints_all _) rfl rfl ?_ | refine ents_raw (bools_all _) rfl rfl ?_ | refine ents_raw (mix_all _ _) rfl rfl ?_ | refine ents_say rfl rfl rfl rfl ?_ | refine ents_nilC rfl rfl ?_) RT RH), trivial⟩) (by kernel_rfl) (fun RT RH => reshape2 (lim := 0) 1 cfx_G rfl [] (by kernel_rfl) (by kernel_rfl) (by exact (ents_raw (ints_all _) rfl rfl (ents_nil))) RT RH)
theorem cd_f (ss : List Int) (n : Nat) (TA : Nat) (hn : 2 ≤ n) (hn64 : n ≤ 64) (hs : M.sizeB n = true) (ha : M.apaB ss n = true) (hA : Meets cfx 0 49 [.slo 0 n] [some (.cells (ints ss) TA .ro)] (.raw (.bool (M.apaB ss n))) [some (.cells (ints ss) TA .ro)]) (hR : Runs cfx 0 1 none (.loop (loopOf cfx.P 18 0)) (cdr_T ss n TA 0) (cdr_H ss n TA 0) (.ret) (cdr_T1 ss n TA 0) (cdr_H1 ss n TA 0))  : Meets cfx 0 18 [.slo 0 n] [some (.cells (ints ss) TA .ro)] (iV 2) [some (.cells (ints ss) TA .ro)] := by
  refine Meets.post (meets_ev cfx_mixed cfx_call (Nat.zero_le _) (Nat.le_of_ble_eq_true rfl) (n := 40) (ans := [Ans.go, Ans.br false, Ans.br false, Ans.ret (V.raw (.bool (M.sizeB (↑n : Int)))), Ans.br false, Ans.br false, Ans.reth (V.raw (.bool (M.apaB ss n))) [some (.cells (ints ss) TA .ro)], Ans.br false, Ans.br false, Ans.loop Ex.ret [.any 0, .any 1, iV 2, .any 3, .any 4, .any 5, .any 6, .any 7, .any 8, .any 9, .any 10, .any 11, .any 12, .any 13, .any 14, .any 15, .any 16, .any 17, .any 18, .any 19, .any 20, .any 21, .any 22, .any 23, .any 24, .any 25, .any 26, .any 27, .any 28, .any 29, .any 30, .any 31, .any 32, .any 33, .any 34, .any 35, .any 36, .any 37, .any 38, .any 39, .any 40, .any 41, .any 42] [some (.cells (ints ss) TA .ro)]]) (v := (iV 2)) (h' := [some (.cells (ints ss) TA .ro)]) (cons := [(decide (64 < (↑n : Int)) = false), (decide ((↑n : Int) < 2) = false), (Ret cfx 45 [iV (↑n : Int)] (V.raw (.bool (M.sizeB (↑n : Int))))), (false = false), ((!M.sizeB (↑n : Int)) = false), (Meets cfx 0 49 [.slo 0 n] [some (.cells (ints ss) TA .ro)] (V.raw (.bool (M.apaB ss n))) [some (.cells (ints ss) TA .ro)]), (false = false), ((!M.apaB ss n) = false), ((2 : Int) ≠ (0 : Int)), (inR IntKind.i64 (↑(n / 2) : Int)), (Runs cfx 0 1 none (.loop (loopOf cfx.P 18 0)) [.slo 0 n, uV, iV 0, uV, .slo 0 n, iV (↑n : Int), V.raw (.bool (decide (64 < (↑n : Int)))), .slo 0 n, iV (↑n : Int), V.raw (.bool (decide ((↑n : Int) < 2))), V.lit false, .slo 0 n, iV (↑n : Int), V.raw (.bool (M.sizeB (↑n : Int))), V.raw (.bool !M.sizeB (↑n : Int)), V.raw (.bool !M.sizeB (↑n : Int)), V.lit false, .slo 0 n, V.raw (.bool (M.apaB ss n)), V.raw (.bool !M.apaB ss n), V.raw (.bool !M.apaB ss n), .slo 0 n, iV (↑n : Int), iV (↑(n / 2) : Int), iV 0, uV, uV, uV, uV, uV, uV, uV, uV, uV, uV, uV, uV, uV, uV, uV, uV, uV, uV] [some (.cells (ints ss) TA .ro)] (Ex.ret) [.any 0, .any 1, iV 2, .any 3, .any 4, .any 5, .any 6, .any 7, .any 8, .any 9, .any 10, .any 11, .any 12, .any 13, .any 14, .any 15, .any 16, .any 17, .any 18, .any 19, .any 20, .any 21, .any 22, .any 23, .any 24, .any 25, .any 26, .any 27, .any 28, .any 29, .any 30, .any 31, .any 32, .any 33, .any 34, .any 35, .any 36, .any 37, .any 38, .any 39, .any 40, .any 41, .any 42] [some (.cells (ints ss) TA .ro)])]) (by kernel_rfl)
    ⟨(by first | omega | (simp; omega) | (simp_all; omega)), (by first | omega | (simp; omega) | (simp_all; omega)), (isz_ok n hn64), rfl, (by first | assumption | exact flg (by first | assumption | omega) | (simp_all; done)), (by exact below_rm (lim0 := 0) (lim := 0) (N := []) rfl rfl (fun k => 0) (fun _ => false) (hA) noWr_1 ⟨.inl ⟨_, _, rfl, ints_all _, .inl ⟨rfl, _, rfl⟩⟩, trivial⟩ (fun _ _ => rfl) rfl rfl rfl inj_1 new_none (Nat.zero_le _)), rfl, (by first | assumption | exact flg (by first | assumption | omega) | (simp_all; done)), (by first | assumption | omega | (simp_all; done) | (simp_all; omega)), inR_i64 (by omega) (by omega), (by
      refine Runs.pre (fun b e => by cases e) (fun RT RH => ?_) (hR)
      exact reshape2 (lim := 0) 1 (t := [.slo 0 n, uV, iV 0, uV, .slo 0 n, iV (↑n : Int), V.raw (.bool (decide (64 < (↑n : Int)))), .slo 0 n, iV (↑n : Int), V.raw (.bool (decide ((↑n : Int) < 2))), V.lit false, .slo 0 n, iV (↑n : Int), V.raw (.bool (M.sizeB (↑n : Int))), V.raw (.bool !M.sizeB (↑n : Int)), V.raw (.bool !M.sizeB (↑n : Int)), V.lit false, .slo 0 n, V.raw (.bool (M.apaB ss n)), V.raw (.bool !M.apaB ss n), V.raw (.bool !M.apaB ss n), .slo 0 n, iV (↑n : Int), iV (↑(n / 2) : Int), iV 0, uV, uV, uV, uV, uV, uV, uV, uV, uV, uV, uV, uV, uV, uV, uV, uV, uV, uV]) (h := [some (.cells (ints ss) TA .ro)]) cfx_G rfl [] (by kernel_rfl) (by kernel_rfl) (by repeat first | exact ents_nil | refine ents_none ?_ | refine ents_map rfl rfl ?_ | refine ents_raw (ints_all _) rfl rfl ?_ | refine ents_raw (bools_all _) rfl rfl ?_ | refine ents_raw (mix_all _ _) rfl rfl ?_ | refine ents_say rfl rfl rfl rfl ?_ | refine ents_nilC rfl rfl ?_) RT RH), trivial⟩) (by kernel_rfl) (fun RT RH => reshape2 (lim := 0) 1 cfx_G rfl [] (by kernel_rfl) (by kernel_rfl) (by exact (ents_raw (ints_all _) rfl rfl (ents_nil))) RT RH)
theorem checkDraw_ok (ss : List Int) (n : Nat) (TA : Nat) (hn : n ≤ 100) (hz : ss.length = n) : Meets cfx 0 18 [.slo 0 n] [some (.cells (ints ss) TA .ro)] (.raw (.int .i64 (M.ckE ss n))) [some (.cells (ints ss) TA .ro)] := by
  unfold M.ckE M.ckB
  by_cases h1 : 64 < n
  · rw [if_pos h1]; exact cd_a ss n TA h1 hn
  rw [if_neg h1]
  by_cases h2 : 2 ≤ n
  · have hA := areApart_ok ss n TA hn hz
    cases h3 : M.sizeB n with
    | false => rw [if_neg (by simp)]; exact cd_c ss n TA h2 (by omega) h3
    | true => cases h4 : M.apaB ss n with
      | false => rw [if_neg (by simp)]; exact cd_d ss n TA h2 (by omega) h3 h4 hA
      | true =>
        rcases cdr_loop ss n TA h2 h3 h4 (by omega) hA hz with ⟨h5, h6⟩ | ⟨h5, h6⟩
        · rw [if_pos (by rw [h5]; simp [h2])]; exact cd_e ss n TA h2 (by omega) h3 h4 hA h6
        · rw [if_neg (by rw [h5]; simp)]; exact cd_f ss n TA h2 (by omega) h3 h4 hA h6
  · rw [if_neg (by simp [h2])]; exact cd_b ss n TA (by omega)
end Go.Proofs.Ytcibaankajfhlaa
end
section
set_option maxRecDepth 100000
namespace Go.Proofs.Ytcibaankajfhlaa
open Go Go.RowKit Go.Proofs.Ytcibaankajfhlaa.E2
theorem cks_a (zs : List Int) (n : Nat) (TS : Nat) (hn : 400 < n) (hn2 : n ≤ 500)  : Meets cfx 0 59 [.slo 0 n] [some (.cells (ints zs) TS .ro)] (iV 6) [some (.cells (ints zs) TS .ro)] := by
  refine Meets.post (meets_ev cfx_mixed cfx_call (Nat.zero_le _) (Nat.le_of_ble_eq_true rfl) (n := 40) (ans := [Ans.go, Ans.br true]) (v := (iV 6)) (h' := [some (.cells (ints zs) TS .ro)]) (cons := [(decide (400 < (↑n : Int)) = true)]) (by kernel_rfl)
    ⟨(by first | omega | (simp; omega) | (simp_all; omega)), trivial⟩) (by kernel_rfl) (fun RT RH => reshape2 (lim := 0) 1 cfx_G rfl [] (by kernel_rfl) (by kernel_rfl) (by exact (ents_raw (ints_all _) rfl rfl (ents_nil))) RT RH)
theorem cks_b (zs : List Int) (n : Nat) (TS : Nat) (hn : n ≤ 400) (hR : Runs cfx 0 1 none (.loop (loopOf cfx.P 59 0)) (cks_T zs n TS 0) (cks_H zs n TS 0) (.exit 0) (cks_T5 zs n TS (n : Nat)) (cks_H5 zs n TS (n : Nat)))  : Meets cfx 0 59 [.slo 0 n] [some (.cells (ints zs) TS .ro)] (iV 0) [some (.cells (ints zs) TS .ro)] := by
  refine Meets.post (meets_ev cfx_mixed cfx_call (Nat.zero_le _) (Nat.le_of_ble_eq_true rfl) (n := 40) (ans := [Ans.go, Ans.br false, Ans.loop (Ex.exit 0) [.slo 0 n, uV, iV 0, uV, .any 4, .slo 0 n, iV (↑n : Int), V.raw (.bool (decide (400 < (↑n : Int)))), .slo 0 n, iV (↑n : Int), iV (↑n : Int), .any 11, .any 12, .any 13, .any 14, .any 15, .any 16, .any 17, .any 18, .any 19, .any 20, .any 21, .any 22, .any 23, .any 24, .any 25, .any 26, .any 27, .any 28, .any 29] [some (.cells (ints zs) TS .ro)]]) (v := (iV 0)) (h' := [some (.cells (ints zs) TS .ro)]) (cons := [(decide (400 < (↑n : Int)) = false), (Runs cfx 0 1 none (.loop (loopOf cfx.P 59 0)) [.slo 0 n, uV, iV 0, uV, uV, .slo 0 n, iV (↑n : Int), V.raw (.bool (decide (400 < (↑n : Int)))), .slo 0 n, iV (↑n : Int), iV 0, uV, uV, uV, uV, uV, uV, uV, uV, uV, uV, uV, uV, uV, uV, uV, uV, uV, uV, uV] [some (.cells (ints zs) TS .ro)] (Ex.exit 0) [.slo 0 n, uV, iV 0, uV, .any 4, .slo 0 n, iV (↑n : Int), V.raw (.bool (decide (400 < (↑n : Int)))), .slo 0 n, iV (↑n : Int), iV (↑n : Int), .any 11, .any 12, .any 13, .any 14, .any 15, .any 16, .any 17, .any 18, .any 19, .any 20, .any 21, .any 22, .any 23, .any 24, .any 25, .any 26, .any 27, .any 28, .any 29] [some (.cells (ints zs) TS .ro)])]) (by kernel_rfl)
    ⟨(by first | omega | (simp; omega) | (simp_all; omega)), (by
      refine Runs.pre (fun b e => by cases e) (fun RT RH => ?_) (hR)
      exact reshape2 (lim := 0) 1 (t := [.slo 0 n, uV, iV 0, uV, uV, .slo 0 n, iV (↑n : Int), V.raw (.bool (decide (400 < (↑n : Int)))), .slo 0 n, iV (↑n : Int), iV 0, uV, uV, uV, uV, uV, uV, uV, uV, uV, uV, uV, uV, uV, uV, uV, uV, uV, uV, uV]) (h := [some (.cells (ints zs) TS .ro)]) cfx_G rfl [] (by kernel_rfl) (by kernel_rfl) (by repeat first | exact ents_nil | refine ents_none ?_ | refine ents_map rfl rfl ?_ | refine ents_raw (ints_all _) rfl rfl ?_ | refine ents_raw (bools_all _) rfl rfl ?_ | refine ents_raw (mix_all _ _) rfl rfl ?_ | refine ents_say rfl rfl rfl rfl ?_ | refine ents_nilC rfl rfl ?_) RT RH), trivial⟩) (by kernel_rfl) (fun RT RH => reshape2 (lim := 0) 1 cfx_G rfl [] (by kernel_rfl) (by kernel_rfl) (by exact (ents_raw (ints_all _) rfl rfl (ents_nil))) RT RH)
theorem cks_c (zs : List Int) (n : Nat) (TS : Nat) (hn : n ≤ 400) (hR : Runs cfx 0 1 none (.loop (loopOf cfx.P 59 0)) (cks_T zs n TS 0) (cks_H zs n TS 0) (.ret) (cks_T1 zs n TS 0) (cks_H1 zs n TS 0))  : Meets cfx 0 59 [.slo 0 n] [some (.cells (ints zs) TS .ro)] (iV 2) [some (.cells (ints zs) TS .ro)] := by
  refine Meets.post (meets_ev cfx_mixed cfx_call (Nat.zero_le _) (Nat.le_of_ble_eq_true rfl) (n := 40) (ans := [Ans.go, Ans.br false, Ans.loop Ex.ret [.any 0, .any 1, iV 2, .any 3, .any 4, .any 5, .any 6, .any 7, .any 8, .any 9, .any 10, .any 11, .any 12, .any 13, .any 14, .any 15, .any 16, .any 17, .any 18, .any 19, .any 20, .any 21, .any 22, .any 23, .any 24, .any 25, .any 26, .any 27, .any 28, .any 29] [some (.cells (ints zs) TS .ro)]]) (v := (iV 2)) (h' := [some (.cells (ints zs) TS .ro)]) (cons := [(decide (400 < (↑n : Int)) = false), (Runs cfx 0 1 none (.loop (loopOf cfx.P 59 0)) [.slo 0 n, uV, iV 0, uV, uV, .slo 0 n, iV (↑n : Int), V.raw (.bool (decide (400 < (↑n : Int)))), .slo 0 n, iV (↑n : Int), iV 0, uV, uV, uV, uV, uV, uV, uV, uV, uV, uV, uV, uV, uV, uV, uV, uV, uV, uV, uV] [some (.cells (ints zs) TS .ro)] (Ex.ret) [.any 0, .any 1, iV 2, .any 3, .any 4, .any 5, .any 6, .any 7, .any 8, .any 9, .any 10, .any 11, .any 12, .any 13, .any 14, .any 15, .any 16, .any 17, .any 18, .any 19, .any 20, .any 21, .any 22, .any 23, .any 24, .any 25, .any 26, .any 27, .any 28, .any 29] [some (.cells (ints zs) TS .ro)])]) (by kernel_rfl)
    ⟨(by first | omega | (simp; omega) | (simp_all; omega)), (by
      refine Runs.pre (fun b e => by cases e) (fun RT RH => ?_) (hR)
      exact reshape2 (lim := 0) 1 (t := [.slo 0 n, uV, iV 0, uV, uV, .slo 0 n, iV (↑n : Int), V.raw (.bool (decide (400 < (↑n : Int)))), .slo 0 n, iV (↑n : Int), iV 0, uV, uV, uV, uV, uV, uV, uV, uV, uV, uV, uV, uV, uV, uV, uV, uV, uV, uV, uV]) (h := [some (.cells (ints zs) TS .ro)]) cfx_G rfl [] (by kernel_rfl) (by kernel_rfl) (by repeat first | exact ents_nil | refine ents_none ?_ | refine ents_map rfl rfl ?_ | refine ents_raw (ints_all _) rfl rfl ?_ | refine ents_raw (bools_all _) rfl rfl ?_ | refine ents_raw (mix_all _ _) rfl rfl ?_ | refine ents_say rfl rfl rfl rfl ?_ | refine ents_nilC rfl rfl ?_) RT RH), trivial⟩) (by kernel_rfl) (fun RT RH => reshape2 (lim := 0) 1 cfx_G rfl [] (by kernel_rfl) (by kernel_rfl) (by exact (ents_raw (ints_all _) rfl rfl (ents_nil))) RT RH)
theorem cks_ok (zs : List Int) (n : Nat) (TS : Nat) (hn : n ≤ 500) (hz : zs.length = n * 4) : Meets cfx 0 59 [.slo 0 n] [some (.cells (ints zs) TS .ro)] (.raw (.int .i64 (M.shE zs n))) [some (.cells (ints zs) TS .ro)] := by
  unfold M.shE
  by_cases h : 400 < n
  · rw [if_pos h]; exact cks_a zs n TS h hn
  · rw [if_neg h]
    rcases cks_loop zs n TS (by omega) hz with ⟨h1, h2⟩ | ⟨h1, h2⟩
    · rw [if_pos h1]; exact cks_b zs n TS (by omega) h2
    · rw [if_neg (by rw [h1]; simp)]; exact cks_c zs n TS (by omega) h2
end Go.Proofs.Ytcibaankajfhlaa
end
section
set_option maxRecDepth 100000
namespace Go.Proofs.Ytcibaankajfhlaa
open Go Go.RowKit Go.Proofs.Ytcibaankajfhlaa.E2
def M.ctE (zs : List Int) (n : Nat) (k : Int) : Int := if M.shE zs n = 0 then (if mhas (M.cnt zs n) k then 0 else 5) else M.shE zs n
def M.ctC (zs : List Int) (n : Nat) (k : Int) (j : Nat) : Int := if M.shE zs n = 0 then M.bst zs n k j else 0
end Go.Proofs.Ytcibaankajfhlaa
end
section
set_option maxRecDepth 100000
namespace Go.Proofs.Ytcibaankajfhlaa
open Go Go.RowKit Go.Proofs.Ytcibaankajfhlaa.E2
theorem ct_p_1 (zs : List Int) (n : Nat) (TS : Nat) (k : Int) (hn : n ≤ 500) (hz : zs.length = n * 4) (f0 : ¬M.shE zs n = 0) : Meets cfx 0 26 [.slo 0 n, .raw (.int .i64 k)] [some (.cells (ints zs) TS .ro)] (V.raw (.tuple { toList := [.agg { toList := [.int .i64 0, .int .i64 0, .int .i64 0, .int .i64 0] }, .int .i64 (M.shE zs n)] })) [some (.cells (ints zs) TS .ro)] := by
  refine Meets.post (meets_ev cfx_mixed cfx_call (Nat.zero_le _) (Nat.le_of_ble_eq_true rfl) (n := 40) (ans := [Ans.go, Ans.reth (iV (M.shE zs n)) [some (.cells (ints zs) TS .ro), some (.cells [iV 0, iV 0, iV 0, iV 0] 36 .rw)], Ans.br true]) (v := V.raw (.tuple { toList := [.agg { toList := [.int .i64 0, .int .i64 0, .int .i64 0, .int .i64 0] }, .int .i64 (M.shE zs n)] })) (h' := [some (.cells (ints zs) TS .ro), some (.cells [iV 0, iV 0, iV 0, iV 0] 36 .rw)]) (cons := [(Meets cfx 0 59 [.slo 0 n] [some (.cells (ints zs) TS .ro), some (.cells [iV 0, iV 0, iV 0, iV 0] 36 .rw)] (iV (M.shE zs n)) [some (.cells (ints zs) TS .ro), some (.cells [iV 0, iV 0, iV 0, iV 0] 36 .rw)]), ((!decide (M.shE zs n = 0)) = true)]) (by kernel_rfl)
    ⟨(by exact below_rm (lim0 := 0) (lim := 0) (N := []) rfl rfl (fun k => 0) (fun _ => false) (cks_ok zs n TS hn hz) noWr_1 ⟨.inl ⟨_, _, rfl, ints_all _, .inl ⟨rfl, _, rfl⟩⟩, trivial⟩ (fun _ _ => rfl) rfl rfl rfl inj_1 new_none (Nat.zero_le _)), (by first | assumption | exact flg (by first | assumption | omega) | (simp_all; done)), trivial⟩) (by kernel_rfl) (fun RT RH => reshape2 (lim := 0) 1 cfx_G rfl [] (by kernel_rfl) (by kernel_rfl) (by exact (ents_raw (ints_all _) rfl rfl (ents_nil))) RT RH)
theorem ct_p_2 (zs : List Int) (n : Nat) (TS : Nat) (k : Int) (hn : n ≤ 500) (hz : zs.length = n * 4) (f0 : M.shE zs n = 0) (f1 : mhas (M.cnt zs n) k = true) : Meets cfx 0 26 [.slo 0 n, .raw (.int .i64 k)] [some (.cells (ints zs) TS .ro)] (V.raw (.tuple { toList := [.agg { toList := [.int .i64 (at' (mget (M.cnt zs n) k) 0), .int .i64 (at' (mget (M.cnt zs n) k) 1), .int .i64 (at' (mget (M.cnt zs n) k) 2), .int .i64 (at' (mget (M.cnt zs n) k) 3)] }, .int .i64 0] })) [some (.cells (ints zs) TS .ro)] := by
  refine Meets.post (meets_ev cfx_mixed cfx_call (Nat.zero_le _) (Nat.le_of_ble_eq_true rfl) (n := 40) (ans := [Ans.go, Ans.reth (iV (M.shE zs n)) [some (.cells (ints zs) TS .ro), some (.cells [iV 0, iV 0, iV 0, iV 0] 36 .rw)], Ans.br false, Ans.reth (V.mp 2) [some (.cells (ints zs) TS .ro), some (.cells [iV 0, iV 0, iV 0, iV 0] 36 .rw), some (mapB [false, false, false, false] (M.cnt zs n))], Ans.key (V.tup [V.lit true, V.raw (.agg { toList := [.int .i64 (at' (mget (M.cnt zs n) k) 0), .int .i64 (at' (mget (M.cnt zs n) k) 1), .int .i64 (at' (mget (M.cnt zs n) k) 2), .int .i64 (at' (mget (M.cnt zs n) k) 3)] })]), Ans.br false]) (v := V.raw (.tuple { toList := [.agg { toList := [.int .i64 (at' (mget (M.cnt zs n) k) 0), .int .i64 (at' (mget (M.cnt zs n) k) 1), .int .i64 (at' (mget (M.cnt zs n) k) 2), .int .i64 (at' (mget (M.cnt zs n) k) 3)] }, .int .i64 0] })) (h' := [some (.cells (ints zs) TS .ro), some (.cells [iV (at' (mget (M.cnt zs n) k) 0), iV (at' (mget (M.cnt zs n) k) 1), iV (at' (mget (M.cnt zs n) k) 2), iV (at' (mget (M.cnt zs n) k) 3)] 36 .rw), some (mapB [false, false, false, false] (M.cnt zs n)), some (.cells [iV (at' (mget (M.cnt zs n) k) 0), iV (at' (mget (M.cnt zs n) k) 1), iV (at' (mget (M.cnt zs n) k) 2), iV (at' (mget (M.cnt zs n) k) 3)] 36 .rw)]) (cons := [(Meets cfx 0 59 [.slo 0 n] [some (.cells (ints zs) TS .ro), some (.cells [iV 0, iV 0, iV 0, iV 0] 36 .rw)] (iV (M.shE zs n)) [some (.cells (ints zs) TS .ro), some (.cells [iV 0, iV 0, iV 0, iV 0] 36 .rw)]), ((!decide (M.shE zs n = 0)) = false), (Meets cfx 0 60 [.slo 0 n] [some (.cells (ints zs) TS .ro), some (.cells [iV 0, iV 0, iV 0, iV 0] 36 .rw)] (V.mp 2) [some (.cells (ints zs) TS .ro), some (.cells [iV 0, iV 0, iV 0, iV 0] 36 .rw), some (mapB [false, false, false, false] (M.cnt zs n))]), ((mks (M.cnt zs n)).length = (mvs' ([false, false, false, false] : List Bool) (M.cnt zs n)).length ∧ (mks (M.cnt zs n)).length = (mbs (M.cnt zs n)).length), (getM cfx 3 (mks (M.cnt zs n)) (mvs' ([false, false, false, false] : List Bool) (M.cnt zs n)) (Value.int IntKind.i64 k) = some (some (V.raw (.agg { toList := [.int .i64 (at' (mget (M.cnt zs n) k) 0), .int .i64 (at' (mget (M.cnt zs n) k) 1), .int .i64 (at' (mget (M.cnt zs n) k) 2), .int .i64 (at' (mget (M.cnt zs n) k) 3)] })))), (false = false)]) (by kernel_rfl)
    ⟨(by exact below_rm (lim0 := 0) (lim := 0) (N := []) rfl rfl (fun k => 0) (fun _ => false) (cks_ok zs n TS hn hz) noWr_1 ⟨.inl ⟨_, _, rfl, ints_all _, .inl ⟨rfl, _, rfl⟩⟩, trivial⟩ (fun _ _ => rfl) rfl rfl rfl inj_1 new_none (Nat.zero_le _)), (by first | assumption | exact flg (by first | assumption | omega) | (simp_all; done)), (by exact below_rm (lim0 := 0) (lim := 0) (N := [some (mapB [false, false, false, false] (M.cnt zs n))]) rfl rfl (fun k => 0) (fun _ => false) (cnt_p zs n TS hn hz) noWr_1 ⟨.inl ⟨_, _, rfl, ints_all _, .inl ⟨rfl, _, rfl⟩⟩, trivial⟩ (fun _ _ => rfl) rfl rfl rfl inj_1 (new_map _ _) (Nat.zero_le _)), mp_len, (map_get ⟨by kernel_rfl, by kernel_rfl, by kernel_rfl⟩ (by first | assumption | simp_all)), rfl, trivial⟩) (by kernel_rfl) (fun RT RH => reshape2 (lim := 0) 1 cfx_G rfl [] (by kernel_rfl) (by kernel_rfl) (by exact (ents_raw (ints_all _) rfl rfl (ents_nil))) RT RH)
theorem ct_p_3 (zs : List Int) (n : Nat) (TS : Nat) (k : Int) (hn : n ≤ 500) (hz : zs.length = n * 4) (f0 : M.shE zs n = 0) (f1 : mhas (M.cnt zs n) k = false) : Meets cfx 0 26 [.slo 0 n, .raw (.int .i64 k)] [some (.cells (ints zs) TS .ro)] (V.raw (.tuple { toList := [.agg { toList := [.int .i64 0, .int .i64 0, .int .i64 0, .int .i64 0] }, .int .i64 5] })) [some (.cells (ints zs) TS .ro)] := by
  refine Meets.post (meets_ev cfx_mixed cfx_call (Nat.zero_le _) (Nat.le_of_ble_eq_true rfl) (n := 40) (ans := [Ans.go, Ans.reth (iV (M.shE zs n)) [some (.cells (ints zs) TS .ro), some (.cells [iV 0, iV 0, iV 0, iV 0] 36 .rw)], Ans.br false, Ans.reth (V.mp 2) [some (.cells (ints zs) TS .ro), some (.cells [iV 0, iV 0, iV 0, iV 0] 36 .rw), some (mapB [false, false, false, false] (M.cnt zs n))], Ans.key (V.lit false), Ans.br true]) (v := V.raw (.tuple { toList := [.agg { toList := [.int .i64 0, .int .i64 0, .int .i64 0, .int .i64 0] }, .int .i64 5] })) (h' := [some (.cells (ints zs) TS .ro), some (.cells [iV 0, iV 0, iV 0, iV 0] 36 .rw), some (mapB [false, false, false, false] (M.cnt zs n)), some (.cells [iV 0, iV 0, iV 0, iV 0] 36 .rw)]) (cons := [(Meets cfx 0 59 [.slo 0 n] [some (.cells (ints zs) TS .ro), some (.cells [iV 0, iV 0, iV 0, iV 0] 36 .rw)] (iV (M.shE zs n)) [some (.cells (ints zs) TS .ro), some (.cells [iV 0, iV 0, iV 0, iV 0] 36 .rw)]), ((!decide (M.shE zs n = 0)) = false), (Meets cfx 0 60 [.slo 0 n] [some (.cells (ints zs) TS .ro), some (.cells [iV 0, iV 0, iV 0, iV 0] 36 .rw)] (V.mp 2) [some (.cells (ints zs) TS .ro), some (.cells [iV 0, iV 0, iV 0, iV 0] 36 .rw), some (mapB [false, false, false, false] (M.cnt zs n))]), ((mks (M.cnt zs n)).length = (mvs' ([false, false, false, false] : List Bool) (M.cnt zs n)).length ∧ (mks (M.cnt zs n)).length = (mbs (M.cnt zs n)).length), (getM cfx 3 (mks (M.cnt zs n)) (mvs' ([false, false, false, false] : List Bool) (M.cnt zs n)) (Value.int IntKind.i64 k) = some none), (true = true)]) (by kernel_rfl)
    ⟨(by exact below_rm (lim0 := 0) (lim := 0) (N := []) rfl rfl (fun k => 0) (fun _ => false) (cks_ok zs n TS hn hz) noWr_1 ⟨.inl ⟨_, _, rfl, ints_all _, .inl ⟨rfl, _, rfl⟩⟩, trivial⟩ (fun _ _ => rfl) rfl rfl rfl inj_1 new_none (Nat.zero_le _)), (by first | assumption | exact flg (by first | assumption | omega) | (simp_all; done)), (by exact below_rm (lim0 := 0) (lim := 0) (N := [some (mapB [false, false, false, false] (M.cnt zs n))]) rfl rfl (fun k => 0) (fun _ => false) (cnt_p zs n TS hn hz) noWr_1 ⟨.inl ⟨_, _, rfl, ints_all _, .inl ⟨rfl, _, rfl⟩⟩, trivial⟩ (fun _ _ => rfl) rfl rfl rfl inj_1 (new_map _ _) (Nat.zero_le _)), mp_len, (map_no ⟨by kernel_rfl, by kernel_rfl, by kernel_rfl⟩ (by first | assumption | simp_all)), rfl, trivial⟩) (by kernel_rfl) (fun RT RH => reshape2 (lim := 0) 1 cfx_G rfl [] (by kernel_rfl) (by kernel_rfl) (by exact (ents_raw (ints_all _) rfl rfl (ents_nil))) RT RH)
theorem ct_p (zs : List Int) (n : Nat) (TS : Nat) (k : Int) (hn : n ≤ 500) (hz : zs.length = n * 4) : Meets cfx 0 26 [.slo 0 n, .raw (.int .i64 k)] [some (.cells (ints zs) TS .ro)] (.raw (.tuple #[.agg #[.int .i64 (M.ctC zs n k 0), .int .i64 (M.ctC zs n k 1), .int .i64 (M.ctC zs n k 2), .int .i64 (M.ctC zs n k 3)], .int .i64 (M.ctE zs n k)])) [some (.cells (ints zs) TS .ro)] := by
  by_cases f0 : ¬M.shE zs n = 0
  ·
    have e : (.raw (.tuple #[.agg #[.int .i64 (M.ctC zs n k 0), .int .i64 (M.ctC zs n k 1), .int .i64 (M.ctC zs n k 2), .int .i64 (M.ctC zs n k 3)], .int .i64 (M.ctE zs n k)]) : V) = V.raw (.tuple { toList := [.agg { toList := [.int .i64 0, .int .i64 0, .int .i64 0, .int .i64 0] }, .int .i64 (M.shE zs n)] }) := by simp_all [M.ctE, M.ctC, M.bst]
    rw [e]
    exact ct_p_1 zs n TS k hn hz f0
  ·
    replace f0 : M.shE zs n = 0 := by simpa using f0
    by_cases f1 : mhas (M.cnt zs n) k = true
    ·
      have e : (.raw (.tuple #[.agg #[.int .i64 (M.ctC zs n k 0), .int .i64 (M.ctC zs n k 1), .int .i64 (M.ctC zs n k 2), .int .i64 (M.ctC zs n k 3)], .int .i64 (M.ctE zs n k)]) : V) = V.raw (.tuple { toList := [.agg { toList := [.int .i64 (at' (mget (M.cnt zs n) k) 0), .int .i64 (at' (mget (M.cnt zs n) k) 1), .int .i64 (at' (mget (M.cnt zs n) k) 2), .int .i64 (at' (mget (M.cnt zs n) k) 3)] }, .int .i64 0] }) := by simp_all [M.ctE, M.ctC, M.bst]
      rw [e]
      exact ct_p_2 zs n TS k hn hz f0 f1
    ·
      replace f1 : mhas (M.cnt zs n) k = false := by simpa using f1
      have e : (.raw (.tuple #[.agg #[.int .i64 (M.ctC zs n k 0), .int .i64 (M.ctC zs n k 1), .int .i64 (M.ctC zs n k 2), .int .i64 (M.ctC zs n k 3)], .int .i64 (M.ctE zs n k)]) : V) = V.raw (.tuple { toList := [.agg { toList := [.int .i64 0, .int .i64 0, .int .i64 0, .int .i64 0] }, .int .i64 5] }) := by simp_all [M.ctE, M.ctC, M.bst]
      rw [e]
      exact ct_p_3 zs n TS k hn hz f0 f1
end Go.Proofs.Ytcibaankajfhlaa
end
section
set_option maxRecDepth 100000
namespace Go.Proofs.Ytcibaankajfhlaa
open Go Go.RowKit Go.Proofs.Ytcibaankajfhlaa.E2
theorem meetsTup {c : Cfg} (hL : c.L = 0) (hG : c.G = []) (hm : c.P.follows .mixedOrders = true) (hfn : ∀ f, c.fns f = true → Callable c.P f) {k : Nat} {f : FuncId} {args : List V} {ans : List Ans} {b sz n : Nat} {A N : List V} {T U : TypeId} {x : Value} {cons : List Prop}
    (he : (evFunc c k f args [some (.cells A T .ro)] 0 ans).map (fun o => (o.v, o.h[0]?, o.h[b]?, o.cons)) = some (.tup [.slo b n, .raw x], some (some (.cells A T .ro)), some (some (.cells N U (.row sz))), cons)) (hb1 : 1 ≤ b) (hc : Paid cons) (hA : A.all isRawV = true) (hN : N.all isRawV = true) : Meets c 0 f args [some (.cells A T .ro)] (.tup [.slo 1 n, .raw x]) [some (.cells A T .ro), some (.cells N U (.row sz))] := by
  rw [Option.map_eq_some_iff] at he
  obtain ⟨o, h1, h2⟩ := he
  obtain ⟨v', h', ans', cons'⟩ := o
  simp only [Prod.mk.injEq] at h2
  obtain ⟨rfl, h0, hb, rfl⟩ := h2
  have hbl := lt_len hb
  have hmm := meets_of hm hfn (by omega) (Nat.zero_le _) h1 hc
  refine hmm.post rfl fun RT RH => reshape2 (lim := 0) 1 (fun p hp => by rw [hG] at hp; cases hp) hL [some b] (h := h') (H := [some (.cells A T .ro), some (.cells N U (.row sz))]) ?_ rfl ?_ RT RH
  · have hbn : b ≠ 0 := by omega
    have hl1 : 1 ≤ h'.length := by omega
    simp [keysOk, anyOwn, V.slotOk, V.under, unders, nilOks, V.nilOk, nlOf, hbl, hbn, hl1]
  · exact ents_raw hA rfl h0 (ents_raw hN rfl hb ents_nil)
theorem draw_ex : Meets cfx 0 20 [.raw (.int .i64 5), .raw (.int .i64 2), .slo 0 3] [some (.cells [.raw (.int .i64 1), .raw (.int .i64 0), .raw (.int .i64 0)] 3 .ro)] (.tup [.slo 1 8, .raw (.int .i64 0)]) [some (.cells [.raw (.int .i64 1), .raw (.int .i64 0), .raw (.int .i64 0)] 3 .ro), some (.cells [.raw (.int .i64 0), .raw (.int .i64 (-1)), .raw (.int .i64 2), .raw (.int .i64 4), .raw (.int .i64 1), .raw (.int .i64 (-1)), .raw (.int .i64 3), .raw (.int .i64 (-1))] 3 (.row 1))] :=
  meetx_conc (meetsTup (c := cfxC) rfl rfl cfxW_mixed cfxW_call (k := 40) (b := 35) (ans := [.auto [] [(93, .fn (.func 3) [.raw (.int .i64 2), .raw (.int .i64 4)] [.ptr 1 2]), (93, .fn (.func 3) [.raw (.int .i64 4)] [.ptr 1 1]), (93, .fn (.func 3) [] [.ptr 1 0])]]) (cons := [RetDel cfxC 93 [.raw (.int .i64 1), .raw (.int .i64 2)] [.raw (.int .i64 2), .raw (.int .i64 3), .raw (.int .i64 4)] 3 1 3 [.raw (.int .i64 2), .raw (.int .i64 4)] 3 1 2, RetDel cfxC 93 [.raw (.int .i64 0), .raw (.int .i64 1)] [.raw (.int .i64 2), .raw (.int .i64 4)] 3 1 2 [.raw (.int .i64 4)] 3 1 1, RetDel cfxC 93 [.raw (.int .i64 0), .raw (.int .i64 1)] [.raw (.int .i64 4)] 3 1 1 [] 3 1 0]) (by kernel_rfl) (by decide) ⟨ret_del (zs := [2, 3, 4]) (i := 1) (j := 2) (T := 3) (by decide) (by decide) (by decide), ret_del (zs := [2, 4]) (i := 0) (j := 1) (T := 3) (by decide) (by decide) (by decide), ret_del (zs := [4]) (i := 0) (j := 1) (T := 3) (by decide) (by decide) (by decide), trivial⟩ rfl rfl)
end Go.Proofs.Ytcibaankajfhlaa
end
section
set_option maxRecDepth 100000
namespace Go.Proofs.Ytcibaankajfhlaa
open Go Go.RowKit Go.Proofs.Ytcibaankajfhlaa.E2
def sle_T (k tm w c1 c2 c4 c5 : Int) : List V := [V.yld (9 : Nat), .ptr 8 0, .any 2, iV k, iV (0 : Int), .ptr 10 0, iV tm, .slo 1 (1 : Nat), iV (1 : Int), iV (0 : Int), V.raw (.bool true), .any 11, .any 12, .any 13, .any 14, .any 15, .any 16, .any 17, .any 18, .any 19, .any 20, .any 21, .any 22, .any 23, .any 24, .any 25, .any 26, .any 27, .any 28, .any 29, .any 30, .any 31]
def sle_H (k tm w c1 c2 c4 c5 : Int) : Heap := [some (.cells [iV (0 : Int), iV (1 : Int), iV (60 : Int), V.raw (Value.slice none (0 : Nat) (0 : Nat)), V.raw (.bool false)] (76 : Nat) .ro), some (.cells [iV (100 : Int), iV (200 : Int), iV (1 : Int)] (78 : Nat) .ro), some (.cells [iV (0 : Int), iV (1 : Int), iV (60 : Int), V.raw (Value.slice none (0 : Nat) (0 : Nat)), V.raw (.bool false)] 76 .rw), some (.cells [iV (100 : Int), iV (200 : Int), iV (1 : Int)] 78 .rw), some (.cells [.slo 1 (1 : Nat), iV (1 : Int), V.raw (Value.slice none (0 : Nat) (0 : Nat)), V.raw (Value.slice none (0 : Nat) (0 : Nat))] 125 .rw), some (.cells [.ptr 4 0] 122 .rw), some (.cells [iV (0 : Int), iV (1 : Int), iV (60 : Int), V.raw (Value.slice none (0 : Nat) (0 : Nat)), V.raw (.bool false)] 76 .rw), some (.cells [iV w, iV c1, iV c2, iV (0 : Int), iV c4, iV c5, iV (0 : Int)] 129 .rw), some (.cells [.slo 1 (1 : Nat)] 57 .rw), some (Blk.rcd { t := [.slo 0 (1 : Nat), .slo 1 (1 : Nat), iV (1 : Int), uV, uV, uV, V.raw (Value.slice none (0 : Nat) (0 : Nat)), iV (0 : Int), iV (0 : Int), .ptr 5 0, uV, .ptr 6 0, .ptr 7 0, uV, uV, uV, uV, .slo 0 (1 : Nat), .slo 1 (1 : Nat), iV (1 : Int), iV (0 : Int), iV (0 : Int), V.raw (.bool false), uV, .slo 1 (1 : Nat), iV (1 : Int), V.agg [.slo 1 (1 : Nat), iV (1 : Int), V.raw (Value.slice none (0 : Nat) (0 : Nat)), V.raw (Value.slice none (0 : Nat) (0 : Nat))], .ptr 4 0, .slo 0 (1 : Nat), iV (1 : Int), iV (0 : Int), V.raw (.bool true), .ptr 0 0, V.raw (.agg { toList := [.int .i64 (0 : Int), .int .i64 (1 : Int), .int .i64 (60 : Int), Value.slice none (0 : Nat) (0 : Nat), .bool false] }), .slo 1 (1 : Nat), V.fn (Fn.func (110 : Nat)) [] [.ptr 8 0], uV, uV, uV, uV, uV, uV, uV, uV, uV, uV, uV, uV, uV, uV, uV, uV, uV, uV, uV, uV, uV, uV, uV, uV, uV, uV, uV, uV, uV, uV, uV, uV, uV, uV, uV, uV, uV, uV, uV, uV, uV, uV, uV, uV, uV, uV, uV, uV, uV, uV, uV, uV, uV, uV, uV, uV], f := (42 : Nat), i := (0 : Nat), st := RSt.ready }), some (.cells [iV (100 : Int), iV (200 : Int), iV (1 : Int)] 78 .rw)]
theorem sle_1 (k tm w c1 c2 c4 c5 : Int) (hk0 : 0 ≤ k) (hk1 : k < 60) (ht : tm = 100 + k) (hw : w = k) (f0 : w = (0 : Int)) : Runs cfx 0 11 none (loopOf cfx.P 110 1) (sle_T k tm w c1 c2 c4 c5) (sle_H k tm w c1 c2 c4 c5) (Ex.normal) (sle_T  (k + (1 : Int)) (tm + (1 : Int)) (w + (1 : Int)) k tm k tm) (sle_H  (k + (1 : Int)) (tm + (1 : Int)) (w + (1 : Int)) k tm k tm) := by
  refine Runs.post (t1 := [V.yld (9 : Nat), .ptr 8 0, .any 2, iV (k + (1 : Int)), iV (0 : Int), .ptr 10 0, iV (tm + (1 : Int)), .slo 1 (1 : Nat), iV (1 : Int), iV (0 : Int), V.raw (.bool true), .any 11, .any 12, .any 13, .any 14, .any 15, iV tm, .ptr 10 1, iV (200 : Int), V.raw (.bool (decide (tm < (200 : Int)))), iV tm, iV (tm + (1 : Int)), V.yld (9 : Nat), iV k, iV tm, iV (0 : Int), V.raw (.agg { toList := [.int .i64 k, .int .i64 tm, .int .i64 (0 : Int)] }), V.raw (.bool true), V.raw (.bool false), iV k, iV (k + (1 : Int)), .any 31]) (h1 := [some (.cells [iV (0 : Int), iV (1 : Int), iV (60 : Int), V.raw (Value.slice none (0 : Nat) (0 : Nat)), V.raw (.bool false)] (76 : Nat) .ro), some (.cells [iV (100 : Int), iV (200 : Int), iV (1 : Int)] (78 : Nat) .ro), some (.cells [iV (0 : Int), iV (1 : Int), iV (60 : Int), V.raw (Value.slice none (0 : Nat) (0 : Nat)), V.raw (.bool false)] 76 .rw), some (.cells [iV (100 : Int), iV (200 : Int), iV (1 : Int)] 78 .rw), some (.cells [.slo 1 (1 : Nat), iV (1 : Int), V.raw (Value.slice none (0 : Nat) (0 : Nat)), V.raw (Value.slice none (0 : Nat) (0 : Nat))] 125 .rw), some (.cells [.ptr 4 0] 122 .rw), some (.cells [iV (0 : Int), iV (1 : Int), iV (60 : Int), V.raw (Value.slice none (0 : Nat) (0 : Nat)), V.raw (.bool false)] 76 .rw), some (.cells [iV (w + (1 : Int)), iV k, iV tm, iV (0 : Int), iV k, iV tm, iV (0 : Int)] 129 .rw), some (.cells [.slo 1 (1 : Nat)] 57 .rw), some (Blk.rcd { t := [.slo 0 (1 : Nat), .slo 1 (1 : Nat), iV (1 : Int), uV, uV, uV, V.raw (Value.slice none (0 : Nat) (0 : Nat)), iV (0 : Int), iV (0 : Int), .ptr 5 0, uV, .ptr 6 0, .ptr 7 0, uV, uV, uV, uV, .slo 0 (1 : Nat), .slo 1 (1 : Nat), iV (1 : Int), iV (0 : Int), iV (0 : Int), V.raw (.bool false), uV, .slo 1 (1 : Nat), iV (1 : Int), V.agg [.slo 1 (1 : Nat), iV (1 : Int), V.raw (Value.slice none (0 : Nat) (0 : Nat)), V.raw (Value.slice none (0 : Nat) (0 : Nat))], .ptr 4 0, .slo 0 (1 : Nat), iV (1 : Int), iV (0 : Int), V.raw (.bool true), .ptr 0 0, V.raw (.agg { toList := [.int .i64 (0 : Int), .int .i64 (1 : Int), .int .i64 (60 : Int), Value.slice none (0 : Nat) (0 : Nat), .bool false] }), .slo 1 (1 : Nat), V.fn (Fn.func (110 : Nat)) [] [.ptr 8 0], uV, uV, uV, uV, uV, uV, uV, uV, uV, uV, uV, uV, uV, uV, uV, uV, uV, uV, uV, uV, uV, uV, uV, uV, uV, uV, uV, uV, uV, uV, uV, uV, uV, uV, uV, uV, uV, uV, uV, uV, uV, uV, uV, uV, uV, uV, uV, uV, uV, uV, uV, uV, uV, uV, uV, uV], f := (42 : Nat), i := (0 : Nat), st := RSt.ready }), some (.cells [iV (100 : Int), iV (200 : Int), iV (1 : Int)] 78 .rw), some (.cells [iV k, iV tm, iV (0 : Int)] 127 .rw), some (.cells [iV (0 : Int), iV (1 : Int), iV (60 : Int), V.raw (Value.slice none (0 : Nat) (0 : Nat)), V.raw (.bool false)] 76 .rw), some (.cells [iV k, iV tm, iV (0 : Int)] 127 .rw), some (.cells [iV (w + (1 : Int)), iV k, iV tm, iV (0 : Int), iV k, iV tm, iV (0 : Int)] 129 .rw), some (.cells [iV k, iV tm, iV (0 : Int)] 127 .rw), some (.cells [iV (w + (1 : Int)), iV k, iV tm, iV (0 : Int), iV k, iV tm, iV (0 : Int)] 129 .rw)]) (body_of cfx_mixed cfx_call (Nat.zero_le _) (rnd := none) (fi := 0) (k := 0) (n := 40) (n0 := 11) (ans := [Ans.br true, Ans.go, Ans.br false, Ans.br false, Ans.olds [], Ans.br false, Ans.br true, Ans.br true, Ans.br false, Ans.go, Ans.br true, Ans.br false, Ans.br false]) (cons := [(decide (tm < (200 : Int)) = true), (false = false), (false = false), ((0 : Int) ≤ (0 : Int) ∧ (0 : Int) < (1 : Int)), (inR IntKind.i64 (1 : Int)), (false = false), (true = true), (true = true), (false = false), (decide (w = (0 : Int)) = true), (inR IntKind.i64 (w + (1 : Int))), (decide (w + (1 : Int) = (60 : Int)) = false), (false = false), (inR IntKind.i64 (k + (1 : Int))), (inR IntKind.i64 (tm + (1 : Int)))]) (by kernel_rfl)
    ⟨(by first | omega | (simp; omega) | (simp_all; omega)), rfl, rfl, (by omega), inR_i64 (by omega) (by omega), rfl, rfl, rfl, rfl, (by first | assumption | (simp only [decide_eq_true_eq, decide_eq_false_iff_not, Bool.not_eq_true', Bool.not_eq_false']; first | assumption | omega) | (simp only [decide_eq_true_eq, decide_eq_false_iff_not, Bool.not_eq_true', Bool.not_eq_false']; done) | omega | (simp_all; done) | (simp_all; omega)), inR_i64 (by omega) (by omega), (by first | assumption | (simp only [decide_eq_true_eq, decide_eq_false_iff_not, Bool.not_eq_true', Bool.not_eq_false']; first | assumption | omega) | (simp only [decide_eq_true_eq, decide_eq_false_iff_not, Bool.not_eq_true', Bool.not_eq_false']; done) | omega | (simp_all; done) | (simp_all; omega)), rfl, inR_i64 (by omega) (by omega), inR_i64 (by omega) (by omega), trivial⟩ (Nat.le_of_ble_eq_true rfl) (Nat.le_of_ble_eq_true rfl) noRnd (noRanges (by kernel_rfl))) (fun RT RH => reshape2 (lim := 0) 11 cfx_G rfl [] (by kernel_rfl) (by kernel_rfl) (by exact (ents_say rfl (by kernel_rfl) (by kernel_rfl) (by kernel_rfl) (ents_say rfl (by kernel_rfl) (by kernel_rfl) (by kernel_rfl) (ents_say rfl (by kernel_rfl) (by kernel_rfl) (by kernel_rfl) (ents_say rfl (by kernel_rfl) (by kernel_rfl) (by kernel_rfl) (ents_say rfl (by kernel_rfl) (by kernel_rfl) (by kernel_rfl) (ents_say rfl (by kernel_rfl) (by kernel_rfl) (by kernel_rfl) (ents_say rfl (by kernel_rfl) (by kernel_rfl) (by kernel_rfl) (ents_say rfl (by kernel_rfl) (by kernel_rfl) (by kernel_rfl) (ents_say rfl (by kernel_rfl) (by kernel_rfl) (by kernel_rfl) (ents_say rfl (by kernel_rfl) (by kernel_rfl) (by kernel_rfl) (ents_say rfl (by kernel_rfl) (by kernel_rfl) (by kernel_rfl) (ents_nil))))))))))))) RT RH)
def sle_T2 (k tm w c1 c2 c4 c5 : Int) : List V := [V.yld (9 : Nat), .ptr 8 0, .any 2, iV k, iV (0 : Int), .ptr 10 0, iV tm, .slo 1 (1 : Nat), iV (1 : Int), iV (0 : Int), V.raw (.bool true), .any 11, .any 12, .any 13, .any 14, .any 15, .any 16, .any 17, .any 18, .any 19, .any 20, .any 21, .any 22, .any 23, .any 24, .any 25, .any 26, .any 27, .any 28, .any 29, .any 30, .any 31]
def sle_H2 (k tm w c1 c2 c4 c5 : Int) : Heap := [some (.cells [iV (0 : Int), iV (1 : Int), iV (60 : Int), V.raw (Value.slice none (0 : Nat) (0 : Nat)), V.raw (.bool false)] (76 : Nat) .ro), some (.cells [iV (100 : Int), iV (200 : Int), iV (1 : Int)] (78 : Nat) .ro), some (.cells [iV (0 : Int), iV (1 : Int), iV (60 : Int), V.raw (Value.slice none (0 : Nat) (0 : Nat)), V.raw (.bool false)] 76 .rw), some (.cells [iV (100 : Int), iV (200 : Int), iV (1 : Int)] 78 .rw), some (.cells [.slo 1 (1 : Nat), iV (1 : Int), .slo 11 (1 : Nat), .slo 12 (1 : Nat)] 125 .rw), some (.cells [.ptr 4 0] 122 .rw), some (.cells [iV (0 : Int), iV (1 : Int), iV (60 : Int), V.raw (Value.slice none (0 : Nat) (0 : Nat)), V.raw (.bool false)] 76 .rw), some (.cells [iV (w + (1 : Int)), iV c1, iV c2, iV (0 : Int), iV k, iV tm, iV (0 : Int)] 129 .rw), some (.cells [.slo 1 (1 : Nat)] 57 .rw), some (Blk.rcd { t := [.slo 0 (1 : Nat), .slo 1 (1 : Nat), iV (1 : Int), uV, uV, uV, V.raw (Value.slice none (0 : Nat) (0 : Nat)), iV (0 : Int), iV (0 : Int), .ptr 5 0, uV, .ptr 6 0, .ptr 7 0, uV, uV, uV, uV, .slo 0 (1 : Nat), .slo 1 (1 : Nat), iV (1 : Int), iV (0 : Int), iV (0 : Int), V.raw (.bool false), uV, .slo 1 (1 : Nat), iV (1 : Int), V.agg [.slo 1 (1 : Nat), iV (1 : Int), V.raw (Value.slice none (0 : Nat) (0 : Nat)), V.raw (Value.slice none (0 : Nat) (0 : Nat))], .ptr 4 0, .slo 0 (1 : Nat), iV (1 : Int), iV (0 : Int), V.raw (.bool true), .ptr 0 0, V.raw (.agg { toList := [.int .i64 (0 : Int), .int .i64 (1 : Int), .int .i64 (60 : Int), Value.slice none (0 : Nat) (0 : Nat), .bool false] }), .slo 1 (1 : Nat), V.fn (Fn.func (110 : Nat)) [] [.ptr 8 0], uV, uV, uV, uV, uV, uV, uV, uV, uV, uV, uV, uV, uV, uV, uV, uV, uV, uV, uV, uV, uV, uV, uV, uV, uV, uV, uV, uV, uV, uV, uV, uV, uV, uV, uV, uV, uV, uV, uV, uV, uV, uV, uV, uV, uV, uV, uV, uV, uV, uV, uV, uV, uV, uV, uV, uV], f := (42 : Nat), i := (0 : Nat), st := RSt.done (Ex.exit (1 : Nat)) }), some (.cells [iV (100 : Int), iV (200 : Int), iV (1 : Int)] 78 .rw), some (.cells [iV (0 : Int), iV (1 : Int), iV (60 : Int), V.raw (Value.slice none (0 : Nat) (0 : Nat)), V.raw (.bool false)] 76 (.row 5)), some (.cells [iV (w + (1 : Int)), iV c1, iV c2, iV (0 : Int), iV k, iV tm, iV (0 : Int)] 129 (.row 7))]
theorem sle_2 (k tm w c1 c2 c4 c5 : Int) (hk0 : 0 ≤ k) (hk1 : k < 60) (ht : tm = 100 + k) (hw : w = k) (f0 : ¬w = (0 : Int)) (f1 : w + (1 : Int) = (60 : Int)) : Runs cfx 0 11 none (loopOf cfx.P 110 1) (sle_T k tm w c1 c2 c4 c5) (sle_H k tm w c1 c2 c4 c5) (Ex.ret) (sle_T2 k tm w c1 c2 c4 c5) (sle_H2 k tm w c1 c2 c4 c5) := by
  refine Runs.post (t1 := [V.yld (9 : Nat), .ptr 8 0, .any 2, iV k, iV (0 : Int), .ptr 10 0, iV tm, .slo 1 (1 : Nat), iV (1 : Int), iV (0 : Int), V.raw (.bool true), .any 11, .any 12, .any 13, .any 14, .any 15, iV tm, .ptr 10 1, iV (200 : Int), V.raw (.bool (decide (tm < (200 : Int)))), .any 20, .any 21, V.yld (9 : Nat), iV k, iV tm, iV (0 : Int), V.raw (.agg { toList := [.int .i64 k, .int .i64 tm, .int .i64 (0 : Int)] }), V.raw (.bool false), V.raw (.bool true), .any 29, .any 30, .any 31]) (h1 := [some (.cells [iV (0 : Int), iV (1 : Int), iV (60 : Int), V.raw (Value.slice none (0 : Nat) (0 : Nat)), V.raw (.bool false)] (76 : Nat) .ro), some (.cells [iV (100 : Int), iV (200 : Int), iV (1 : Int)] (78 : Nat) .ro), some (.cells [iV (0 : Int), iV (1 : Int), iV (60 : Int), V.raw (Value.slice none (0 : Nat) (0 : Nat)), V.raw (.bool false)] 76 .rw), some (.cells [iV (100 : Int), iV (200 : Int), iV (1 : Int)] 78 .rw), some (.cells [.slo 1 (1 : Nat), iV (1 : Int), .slo 20 (1 : Nat), .slo 22 (1 : Nat)] 125 .rw), some (.cells [.ptr 4 0] 122 .rw), some (.cells [iV (0 : Int), iV (1 : Int), iV (60 : Int), V.raw (Value.slice none (0 : Nat) (0 : Nat)), V.raw (.bool false)] 76 .rw), some (.cells [iV (w + (1 : Int)), iV c1, iV c2, iV (0 : Int), iV k, iV tm, iV (0 : Int)] 129 .rw), some (.cells [.slo 1 (1 : Nat)] 57 .rw), some (Blk.rcd { t := [.slo 0 (1 : Nat), .slo 1 (1 : Nat), iV (1 : Int), uV, uV, uV, V.raw (Value.slice none (0 : Nat) (0 : Nat)), iV (0 : Int), iV (0 : Int), .ptr 5 0, uV, .ptr 6 0, .ptr 7 0, uV, uV, uV, uV, .slo 0 (1 : Nat), .slo 1 (1 : Nat), iV (1 : Int), iV (0 : Int), iV (0 : Int), V.raw (.bool false), uV, .slo 1 (1 : Nat), iV (1 : Int), V.agg [.slo 1 (1 : Nat), iV (1 : Int), V.raw (Value.slice none (0 : Nat) (0 : Nat)), V.raw (Value.slice none (0 : Nat) (0 : Nat))], .ptr 4 0, .slo 0 (1 : Nat), iV (1 : Int), iV (0 : Int), V.raw (.bool true), .ptr 0 0, V.raw (.agg { toList := [.int .i64 (0 : Int), .int .i64 (1 : Int), .int .i64 (60 : Int), Value.slice none (0 : Nat) (0 : Nat), .bool false] }), .slo 1 (1 : Nat), V.fn (Fn.func (110 : Nat)) [] [.ptr 8 0], uV, uV, uV, uV, uV, uV, uV, uV, uV, uV, uV, uV, uV, uV, uV, uV, uV, uV, uV, uV, uV, uV, uV, uV, uV, uV, uV, uV, uV, uV, uV, uV, uV, uV, uV, uV, uV, uV, uV, uV, uV, uV, uV, uV, uV, uV, uV, uV, uV, uV, uV, uV, uV, uV, uV, uV], f := (42 : Nat), i := (0 : Nat), st := RSt.done (Ex.exit (1 : Nat)) }), some (.cells [iV (100 : Int), iV (200 : Int), iV (1 : Int)] 78 .rw), some (.cells [iV k, iV tm, iV (0 : Int)] 127 .rw), some (.cells [iV (0 : Int), iV (1 : Int), iV (60 : Int), V.raw (Value.slice none (0 : Nat) (0 : Nat)), V.raw (.bool false)] 76 .rw), some (.cells [iV k, iV tm, iV (0 : Int)] 127 .rw), some (.cells [iV (w + (1 : Int)), iV c1, iV c2, iV (0 : Int), iV k, iV tm, iV (0 : Int)] 129 .rw), some (.cells [iV k, iV tm, iV (0 : Int)] 127 .rw), some (.cells [iV (w + (1 : Int)), iV c1, iV c2, iV (0 : Int), iV k, iV tm, iV (0 : Int)] 129 .rw), some (.cells [iV (0 : Int), iV (1 : Int), iV (60 : Int), V.raw (Value.slice none (0 : Nat) (0 : Nat)), V.raw (.bool false)] 76 .rw), some (.cells [iV (w + (1 : Int)), iV c1, iV c2, iV (0 : Int), iV k, iV tm, iV (0 : Int)] 129 .rw), some (.cells [iV (0 : Int), iV (1 : Int), iV (60 : Int), V.raw (Value.slice none (0 : Nat) (0 : Nat)), V.raw (.bool false)] 76 (.row 5)), some (.cells [iV (0 : Int), iV (1 : Int), iV (60 : Int), V.raw (Value.slice none (0 : Nat) (0 : Nat)), V.raw (.bool false)] 76 (.row 5)), some (.cells [iV (w + (1 : Int)), iV c1, iV c2, iV (0 : Int), iV k, iV tm, iV (0 : Int)] 129 (.row 7)), some (.cells [iV (w + (1 : Int)), iV c1, iV c2, iV (0 : Int), iV k, iV tm, iV (0 : Int)] 129 (.row 7))]) (body_of cfx_mixed cfx_call (Nat.zero_le _) (rnd := none) (fi := 0) (k := 0) (n := 40) (n0 := 11) (ans := [Ans.br true, Ans.go, Ans.br false, Ans.br false, Ans.olds [], Ans.br false, Ans.br true, Ans.br true, Ans.br false, Ans.go, Ans.br false, Ans.br true, Ans.go, Ans.olds [((10 : Nat), (8 : Nat))], Ans.olds [((10 : Nat), (8 : Nat))], Ans.br true]) (cons := [(decide (tm < (200 : Int)) = true), (false = false), (false = false), ((0 : Int) ≤ (0 : Int) ∧ (0 : Int) < (1 : Int)), (inR IntKind.i64 (1 : Int)), (false = false), (true = true), (true = true), (false = false), (decide (w = (0 : Int)) = false), (inR IntKind.i64 (w + (1 : Int))), (decide (w + (1 : Int) = (60 : Int)) = true), ((1 : Nat) ≤ (9223372036854775807 : Nat)), ((5 : Nat) ≤ (5 : Nat)), (true = true), ((1 : Nat) ≤ (9223372036854775807 : Nat) ∧ (56 : Nat) ≤ (140737488355328 : Nat)), ((1 : Nat) ≤ (9223372036854775807 : Nat)), ((7 : Nat) ≤ (7 : Nat)), (true = true), ((1 : Nat) ≤ (9223372036854775807 : Nat) ∧ (56 : Nat) ≤ (140737488355328 : Nat)), (true = true)]) (by kernel_rfl)
    ⟨(by first | omega | (simp; omega) | (simp_all; omega)), rfl, rfl, (by omega), inR_i64 (by omega) (by omega), rfl, rfl, rfl, rfl, (by first | assumption | (simp only [decide_eq_true_eq, decide_eq_false_iff_not, Bool.not_eq_true', Bool.not_eq_false']; first | assumption | omega) | (simp only [decide_eq_true_eq, decide_eq_false_iff_not, Bool.not_eq_true', Bool.not_eq_false']; done) | omega | (simp_all; done) | (simp_all; omega)), inR_i64 (by omega) (by omega), (by first | assumption | (simp only [decide_eq_true_eq, decide_eq_false_iff_not, Bool.not_eq_true', Bool.not_eq_false']; first | assumption | omega) | (simp only [decide_eq_true_eq, decide_eq_false_iff_not, Bool.not_eq_true', Bool.not_eq_false']; done) | omega | (simp_all; done) | (simp_all; omega)), (by first | assumption | omega | (simp_all; done) | (simp_all; omega)), (by first | assumption | omega | (simp_all; done) | (simp_all; omega)), rfl, (by first | assumption | omega | (simp_all; done) | (simp_all; omega)), (by first | assumption | omega | (simp_all; done) | (simp_all; omega)), (by first | assumption | omega | (simp_all; done) | (simp_all; omega)), rfl, (by first | assumption | omega | (simp_all; done) | (simp_all; omega)), rfl, trivial⟩ (Nat.le_of_ble_eq_true rfl) (Nat.le_of_ble_eq_true rfl) noRnd (noRanges (by kernel_rfl))) (fun RT RH => reshape2 (lim := 0) 11 cfx_G rfl [some 20, some 22] (by kernel_rfl) (by kernel_rfl) (by exact (ents_say rfl (by kernel_rfl) (by kernel_rfl) (by kernel_rfl) (ents_say rfl (by kernel_rfl) (by kernel_rfl) (by kernel_rfl) (ents_say rfl (by kernel_rfl) (by kernel_rfl) (by kernel_rfl) (ents_say rfl (by kernel_rfl) (by kernel_rfl) (by kernel_rfl) (ents_say rfl (by kernel_rfl) (by kernel_rfl) (by kernel_rfl) (ents_say rfl (by kernel_rfl) (by kernel_rfl) (by kernel_rfl) (ents_say rfl (by kernel_rfl) (by kernel_rfl) (by kernel_rfl) (ents_say rfl (by kernel_rfl) (by kernel_rfl) (by kernel_rfl) (ents_say rfl (by kernel_rfl) (by kernel_rfl) (by kernel_rfl) (ents_say rfl (by kernel_rfl) (by kernel_rfl) (by kernel_rfl) (ents_say rfl (by kernel_rfl) (by kernel_rfl) (by kernel_rfl) (ents_say rfl (by kernel_rfl) (by kernel_rfl) (by kernel_rfl) (ents_say rfl (by kernel_rfl) (by kernel_rfl) (by kernel_rfl) (ents_nil))))))))))))))) RT RH)
theorem sle_3 (k tm w c1 c2 c4 c5 : Int) (hk0 : 0 ≤ k) (hk1 : k < 60) (ht : tm = 100 + k) (hw : w = k) (f0 : ¬w = (0 : Int)) (f1 : ¬w + (1 : Int) = (60 : Int)) : Runs cfx 0 11 none (loopOf cfx.P 110 1) (sle_T k tm w c1 c2 c4 c5) (sle_H k tm w c1 c2 c4 c5) (Ex.normal) (sle_T  (k + (1 : Int)) (tm + (1 : Int)) (w + (1 : Int)) c1 c2 k tm) (sle_H  (k + (1 : Int)) (tm + (1 : Int)) (w + (1 : Int)) c1 c2 k tm) := by
  refine Runs.post (t1 := [V.yld (9 : Nat), .ptr 8 0, .any 2, iV (k + (1 : Int)), iV (0 : Int), .ptr 10 0, iV (tm + (1 : Int)), .slo 1 (1 : Nat), iV (1 : Int), iV (0 : Int), V.raw (.bool true), .any 11, .any 12, .any 13, .any 14, .any 15, iV tm, .ptr 10 1, iV (200 : Int), V.raw (.bool (decide (tm < (200 : Int)))), iV tm, iV (tm + (1 : Int)), V.yld (9 : Nat), iV k, iV tm, iV (0 : Int), V.raw (.agg { toList := [.int .i64 k, .int .i64 tm, .int .i64 (0 : Int)] }), V.raw (.bool true), V.raw (.bool false), iV k, iV (k + (1 : Int)), .any 31]) (h1 := [some (.cells [iV (0 : Int), iV (1 : Int), iV (60 : Int), V.raw (Value.slice none (0 : Nat) (0 : Nat)), V.raw (.bool false)] (76 : Nat) .ro), some (.cells [iV (100 : Int), iV (200 : Int), iV (1 : Int)] (78 : Nat) .ro), some (.cells [iV (0 : Int), iV (1 : Int), iV (60 : Int), V.raw (Value.slice none (0 : Nat) (0 : Nat)), V.raw (.bool false)] 76 .rw), some (.cells [iV (100 : Int), iV (200 : Int), iV (1 : Int)] 78 .rw), some (.cells [.slo 1 (1 : Nat), iV (1 : Int), V.raw (Value.slice none (0 : Nat) (0 : Nat)), V.raw (Value.slice none (0 : Nat) (0 : Nat))] 125 .rw), some (.cells [.ptr 4 0] 122 .rw), some (.cells [iV (0 : Int), iV (1 : Int), iV (60 : Int), V.raw (Value.slice none (0 : Nat) (0 : Nat)), V.raw (.bool false)] 76 .rw), some (.cells [iV (w + (1 : Int)), iV c1, iV c2, iV (0 : Int), iV k, iV tm, iV (0 : Int)] 129 .rw), some (.cells [.slo 1 (1 : Nat)] 57 .rw), some (Blk.rcd { t := [.slo 0 (1 : Nat), .slo 1 (1 : Nat), iV (1 : Int), uV, uV, uV, V.raw (Value.slice none (0 : Nat) (0 : Nat)), iV (0 : Int), iV (0 : Int), .ptr 5 0, uV, .ptr 6 0, .ptr 7 0, uV, uV, uV, uV, .slo 0 (1 : Nat), .slo 1 (1 : Nat), iV (1 : Int), iV (0 : Int), iV (0 : Int), V.raw (.bool false), uV, .slo 1 (1 : Nat), iV (1 : Int), V.agg [.slo 1 (1 : Nat), iV (1 : Int), V.raw (Value.slice none (0 : Nat) (0 : Nat)), V.raw (Value.slice none (0 : Nat) (0 : Nat))], .ptr 4 0, .slo 0 (1 : Nat), iV (1 : Int), iV (0 : Int), V.raw (.bool true), .ptr 0 0, V.raw (.agg { toList := [.int .i64 (0 : Int), .int .i64 (1 : Int), .int .i64 (60 : Int), Value.slice none (0 : Nat) (0 : Nat), .bool false] }), .slo 1 (1 : Nat), V.fn (Fn.func (110 : Nat)) [] [.ptr 8 0], uV, uV, uV, uV, uV, uV, uV, uV, uV, uV, uV, uV, uV, uV, uV, uV, uV, uV, uV, uV, uV, uV, uV, uV, uV, uV, uV, uV, uV, uV, uV, uV, uV, uV, uV, uV, uV, uV, uV, uV, uV, uV, uV, uV, uV, uV, uV, uV, uV, uV, uV, uV, uV, uV, uV, uV], f := (42 : Nat), i := (0 : Nat), st := RSt.ready }), some (.cells [iV (100 : Int), iV (200 : Int), iV (1 : Int)] 78 .rw), some (.cells [iV k, iV tm, iV (0 : Int)] 127 .rw), some (.cells [iV (0 : Int), iV (1 : Int), iV (60 : Int), V.raw (Value.slice none (0 : Nat) (0 : Nat)), V.raw (.bool false)] 76 .rw), some (.cells [iV k, iV tm, iV (0 : Int)] 127 .rw), some (.cells [iV (w + (1 : Int)), iV c1, iV c2, iV (0 : Int), iV k, iV tm, iV (0 : Int)] 129 .rw), some (.cells [iV k, iV tm, iV (0 : Int)] 127 .rw), some (.cells [iV (w + (1 : Int)), iV c1, iV c2, iV (0 : Int), iV k, iV tm, iV (0 : Int)] 129 .rw)]) (body_of cfx_mixed cfx_call (Nat.zero_le _) (rnd := none) (fi := 0) (k := 0) (n := 40) (n0 := 11) (ans := [Ans.br true, Ans.go, Ans.br false, Ans.br false, Ans.olds [], Ans.br false, Ans.br true, Ans.br true, Ans.br false, Ans.go, Ans.br false, Ans.br false, Ans.br false]) (cons := [(decide (tm < (200 : Int)) = true), (false = false), (false = false), ((0 : Int) ≤ (0 : Int) ∧ (0 : Int) < (1 : Int)), (inR IntKind.i64 (1 : Int)), (false = false), (true = true), (true = true), (false = false), (decide (w = (0 : Int)) = false), (inR IntKind.i64 (w + (1 : Int))), (decide (w + (1 : Int) = (60 : Int)) = false), (false = false), (inR IntKind.i64 (k + (1 : Int))), (inR IntKind.i64 (tm + (1 : Int)))]) (by kernel_rfl)
    ⟨(by first | omega | (simp; omega) | (simp_all; omega)), rfl, rfl, (by omega), inR_i64 (by omega) (by omega), rfl, rfl, rfl, rfl, (by first | assumption | (simp only [decide_eq_true_eq, decide_eq_false_iff_not, Bool.not_eq_true', Bool.not_eq_false']; first | assumption | omega) | (simp only [decide_eq_true_eq, decide_eq_false_iff_not, Bool.not_eq_true', Bool.not_eq_false']; done) | omega | (simp_all; done) | (simp_all; omega)), inR_i64 (by omega) (by omega), (by first | assumption | (simp only [decide_eq_true_eq, decide_eq_false_iff_not, Bool.not_eq_true', Bool.not_eq_false']; first | assumption | omega) | (simp only [decide_eq_true_eq, decide_eq_false_iff_not, Bool.not_eq_true', Bool.not_eq_false']; done) | omega | (simp_all; done) | (simp_all; omega)), rfl, inR_i64 (by omega) (by omega), inR_i64 (by omega) (by omega), trivial⟩ (Nat.le_of_ble_eq_true rfl) (Nat.le_of_ble_eq_true rfl) noRnd (noRanges (by kernel_rfl))) (fun RT RH => reshape2 (lim := 0) 11 cfx_G rfl [] (by kernel_rfl) (by kernel_rfl) (by exact (ents_say rfl (by kernel_rfl) (by kernel_rfl) (by kernel_rfl) (ents_say rfl (by kernel_rfl) (by kernel_rfl) (by kernel_rfl) (ents_say rfl (by kernel_rfl) (by kernel_rfl) (by kernel_rfl) (ents_say rfl (by kernel_rfl) (by kernel_rfl) (by kernel_rfl) (ents_say rfl (by kernel_rfl) (by kernel_rfl) (by kernel_rfl) (ents_say rfl (by kernel_rfl) (by kernel_rfl) (by kernel_rfl) (ents_say rfl (by kernel_rfl) (by kernel_rfl) (by kernel_rfl) (ents_say rfl (by kernel_rfl) (by kernel_rfl) (by kernel_rfl) (ents_say rfl (by kernel_rfl) (by kernel_rfl) (by kernel_rfl) (ents_say rfl (by kernel_rfl) (by kernel_rfl) (by kernel_rfl) (ents_say rfl (by kernel_rfl) (by kernel_rfl) (by kernel_rfl) (ents_nil))))))))))))) RT RH)
end Go.Proofs.Ytcibaankajfhlaa
end
section
set_option maxRecDepth 100000
namespace Go.Proofs.Ytcibaankajfhlaa
open Go Go.RowKit Go.Proofs.Ytcibaankajfhlaa.E2
theorem sle_loop : Runs cfx 0 11 none (.loop (loopOf cfx.P 110 1)) (sle_T 0 100 0 0 0 0 0) (sle_H 0 100 0 0 0 0 0) (.ret) (sle_T2 59 159 59 0 100 58 158) (sle_H2 59 159 59 0 100 58 158) :=
  upto noRnd (fun j => sle_T (j : Int) (100 + (j : Int)) (j : Int) 0 (if j = 0 then 0 else 100) (if j = 0 then 0 else (j : Int) - 1) (if j = 0 then 0 else 99 + (j : Int))) (fun j => sle_H (j : Int) (100 + (j : Int)) (j : Int) 0 (if j = 0 then 0 else 100) (if j = 0 then 0 else (j : Int) - 1) (if j = 0 then 0 else 99 + (j : Int))) 59 (by simp) (fun j hj => by
    cases j with
    | zero => exact sle_1 0 100 0 0 0 0 0 (by omega) (by omega) (by omega) (by omega) (by omega)
    | succ j =>
      have h := sle_3 ((j + 1 : Nat) : Int) (100 + ((j + 1 : Nat) : Int)) ((j + 1 : Nat) : Int) 0 100 (((j + 1 : Nat) : Int) - 1) (99 + ((j + 1 : Nat) : Int)) (by omega) (by omega) rfl rfl (by omega) (by omega)
      simp only [if_neg (show ¬ j + 1 = 0 by omega), if_neg (show ¬ j + 1 + 1 = 0 by omega)]
      rw [show ((j + 1 + 1 : Nat) : Int) = ((j + 1 : Nat) : Int) + 1 by omega, show (100 : Int) + (((j + 1 : Nat) : Int) + 1) = 100 + ((j + 1 : Nat) : Int) + 1 by omega, show ((j + 1 : Nat) : Int) + 1 - 1 = ((j + 1 : Nat) : Int) by omega, show (99 : Int) + (((j + 1 : Nat) : Int) + 1) = 100 + ((j + 1 : Nat) : Int) by omega]
      exact h) (by exact sle_2 59 159 59 0 100 58 158 (by omega) (by omega) (by omega) (by omega) (by omega) (by omega))
end Go.Proofs.Ytcibaankajfhlaa
end
section
set_option maxRecDepth 100000
namespace Go.Proofs.Ytcibaankajfhlaa
open Go Go.RowKit Go.Proofs.Ytcibaankajfhlaa.E2
theorem slate_ex   : Meets cfx 0 42 [.slo 0 1, .slo 1 1, .raw (.int .i64 1)] [some (.cells [.raw (.int .i64 0), .raw (.int .i64 1), .raw (.int .i64 60), .raw (.slice none 0 0), .raw (.bool false)] 76 .ro), some (.cells [.raw (.int .i64 100), .raw (.int .i64 200), .raw (.int .i64 1)] 78 .ro)] (V.tup [.slo 2 (1 : Nat), iV (0 : Int)]) [some (.cells [iV (0 : Int), iV (1 : Int), iV (60 : Int), V.raw (Value.slice none (0 : Nat) (0 : Nat)), V.raw (.bool false)] (76 : Nat) .ro), some (.cells [iV (100 : Int), iV (200 : Int), iV (1 : Int)] (78 : Nat) .ro), some (.cells [iV (100 : Int), iV (160 : Int)] 63 (.row 2))] := by
  refine Meets.post (meets_ev cfx_mixed cfx_call (Nat.zero_le _) (Nat.le_of_ble_eq_true rfl) (n := 40) (ans := [Ans.go, Ans.go, Ans.br false, Ans.br false, Ans.br false, Ans.go, Ans.br true, Ans.br true, Ans.br false, Ans.go, Ans.br true, Ans.go, Ans.go, Ans.br true, Ans.br true, Ans.br false, Ans.go, Ans.go, Ans.br true, Ans.br true, Ans.br false, Ans.br false, Ans.br false, Ans.br false, Ans.go, Ans.br true, Ans.br true, Ans.br false, Ans.br false, Ans.br false, Ans.br false, Ans.br false, Ans.go, Ans.br true, Ans.br false, Ans.br false, Ans.br false, Ans.br false, Ans.br false, Ans.go, Ans.br true, Ans.br true, Ans.br false, Ans.br false, Ans.br false, Ans.br false, Ans.br false, Ans.br false, Ans.br true, Ans.go, Ans.go, Ans.br true, Ans.loop Ex.ret [V.yld (9 : Nat), .ptr 8 0, .any 2, iV (59 : Int), iV (0 : Int), .ptr 10 0, iV (159 : Int), .slo 1 (1 : Nat), iV (1 : Int), iV (0 : Int), V.raw (.bool true), .any 11, .any 12, .any 13, .any 14, .any 15, .any 16, .any 17, .any 18, .any 19, .any 20, .any 21, .any 22, .any 23, .any 24, .any 25, .any 26, .any 27, .any 28, .any 29, .any 30, .any 31] [some (.cells [iV (0 : Int), iV (1 : Int), iV (60 : Int), V.raw (Value.slice none (0 : Nat) (0 : Nat)), V.raw (.bool false)] (76 : Nat) .ro), some (.cells [iV (100 : Int), iV (200 : Int), iV (1 : Int)] (78 : Nat) .ro), some (.cells [iV (0 : Int), iV (1 : Int), iV (60 : Int), V.raw (Value.slice none (0 : Nat) (0 : Nat)), V.raw (.bool false)] 76 .rw), some (.cells [iV (100 : Int), iV (200 : Int), iV (1 : Int)] 78 .rw), some (.cells [.slo 1 (1 : Nat), iV (1 : Int), .slo 11 (1 : Nat), .slo 12 (1 : Nat)] 125 .rw), some (.cells [.ptr 4 0] 122 .rw), some (.cells [iV (0 : Int), iV (1 : Int), iV (60 : Int), V.raw (Value.slice none (0 : Nat) (0 : Nat)), V.raw (.bool false)] 76 .rw), some (.cells [iV (60 : Int), iV (0 : Int), iV (100 : Int), iV (0 : Int), iV (59 : Int), iV (159 : Int), iV (0 : Int)] 129 .rw), some (.cells [.slo 1 (1 : Nat)] 57 .rw), some (Blk.rcd { t := [.slo 0 (1 : Nat), .slo 1 (1 : Nat), iV (1 : Int), uV, uV, uV, V.raw (Value.slice none (0 : Nat) (0 : Nat)), iV (0 : Int), iV (0 : Int), .ptr 5 0, uV, .ptr 6 0, .ptr 7 0, uV, uV, uV, uV, .slo 0 (1 : Nat), .slo 1 (1 : Nat), iV (1 : Int), iV (0 : Int), iV (0 : Int), V.raw (.bool false), uV, .slo 1 (1 : Nat), iV (1 : Int), V.agg [.slo 1 (1 : Nat), iV (1 : Int), V.raw (Value.slice none (0 : Nat) (0 : Nat)), V.raw (Value.slice none (0 : Nat) (0 : Nat))], .ptr 4 0, .slo 0 (1 : Nat), iV (1 : Int), iV (0 : Int), V.raw (.bool true), .ptr 0 0, V.raw (.agg { toList := [.int .i64 (0 : Int), .int .i64 (1 : Int), .int .i64 (60 : Int), Value.slice none (0 : Nat) (0 : Nat), .bool false] }), .slo 1 (1 : Nat), V.fn (Fn.func (110 : Nat)) [] [.ptr 8 0], uV, uV, uV, uV, uV, uV, uV, uV, uV, uV, uV, uV, uV, uV, uV, uV, uV, uV, uV, uV, uV, uV, uV, uV, uV, uV, uV, uV, uV, uV, uV, uV, uV, uV, uV, uV, uV, uV, uV, uV, uV, uV, uV, uV, uV, uV, uV, uV, uV, uV, uV, uV, uV, uV, uV, uV], f := (42 : Nat), i := (0 : Nat), st := RSt.done (Ex.exit (1 : Nat)) }), some (.cells [iV (100 : Int), iV (200 : Int), iV (1 : Int)] 78 .rw), some (.cells [iV (0 : Int), iV (1 : Int), iV (60 : Int), V.raw (Value.slice none (0 : Nat) (0 : Nat)), V.raw (.bool false)] 76 (.row 5)), some (.cells [iV (60 : Int), iV (0 : Int), iV (100 : Int), iV (0 : Int), iV (59 : Int), iV (159 : Int), iV (0 : Int)] 129 (.row 7))], Ans.br false, Ans.br true, Ans.go, Ans.br false, Ans.br false]) (v := V.tup [.slo 13 (1 : Nat), iV (0 : Int)]) (h' := [some (.cells [iV (0 : Int), iV (1 : Int), iV (60 : Int), V.raw (Value.slice none (0 : Nat) (0 : Nat)), V.raw (.bool false)] (76 : Nat) .ro), some (.cells [iV (100 : Int), iV (200 : Int), iV (1 : Int)] (78 : Nat) .ro), some (.cells [iV (0 : Int), iV (1 : Int), iV (60 : Int), V.raw (Value.slice none (0 : Nat) (0 : Nat)), V.raw (.bool false)] 76 .rw), some (.cells [iV (100 : Int), iV (200 : Int), iV (1 : Int)] 78 .rw), some (.cells [.slo 1 (1 : Nat), iV (1 : Int), .slo 11 (1 : Nat), .slo 12 (1 : Nat)] 125 .rw), some (.cells [.ptr 4 0] 122 .rw), some (.cells [iV (0 : Int), iV (1 : Int), iV (60 : Int), V.raw (Value.slice none (0 : Nat) (0 : Nat)), V.raw (.bool false)] 76 .rw), some (.cells [iV (60 : Int), iV (0 : Int), iV (100 : Int), iV (0 : Int), iV (59 : Int), iV (159 : Int), iV (0 : Int)] 129 .rw), some (.cells [.slo 1 (1 : Nat)] 57 .rw), none, some (.cells [iV (100 : Int), iV (200 : Int), iV (1 : Int)] 78 .rw), some (.cells [iV (0 : Int), iV (1 : Int), iV (60 : Int), V.raw (Value.slice none (0 : Nat) (0 : Nat)), V.raw (.bool false)] 76 (.row 5)), some (.cells [iV (60 : Int), iV (0 : Int), iV (100 : Int), iV (0 : Int), iV (59 : Int), iV (159 : Int), iV (0 : Int)] 129 (.row 7)), some (.cells [iV (100 : Int), iV (160 : Int)] 63 (.row 2)), some (.cells [iV (60 : Int), iV (0 : Int), iV (100 : Int), iV (0 : Int), iV (59 : Int), iV (159 : Int), iV (0 : Int)] 129 .rw), some (.cells [iV (60 : Int), iV (0 : Int), iV (100 : Int), iV (0 : Int), iV (59 : Int), iV (159 : Int), iV (0 : Int)] 129 .rw), some (.cells [iV (100 : Int), iV (160 : Int)] 63 .rw)]) (cons := [(false = false), (false = false), (false = false), (true = true), (true = true), (false = false), (true = true), ((0 : Int) ≤ (0 : Int) ∧ (0 : Int) < (1 : Int)), (true = true), (true = true), (false = false), (true = true), (true = true), (false = false), (false = false), (false = false), (false = false), (true = true), (true = true), (false = false), (false = false), (false = false), (inR IntKind.i64 (1 : Int)), (false = false), (false = false), (true = true), ((0 : Int) ≤ (0 : Int) ∧ (0 : Int) < (1 : Int)), (false = false), (false = false), (false = false), (false = false), (false = false), (true = true), (true = true), (false = false), (false = false), (inR IntKind.i64 (100 : Int)), (inR IntKind.i64 (100 : Int)), (inR IntKind.i64 (1 : Int)), (false = false), (false = false), (false = false), (false = false), (true = true), ((0 : Int) ≤ (0 : Int) ∧ (0 : Int) < (1 : Int)), (true = true), ((0 : Int) ≤ (0 : Int) ∧ (0 : Int) < (1 : Int)), (Runs cfx 0 (11 : Nat) none (.loop (loopOf cfx.P 110 1)) [V.yld (9 : Nat), .ptr 8 0, uV, iV (0 : Int), iV (0 : Int), .ptr 10 0, iV (100 : Int), .slo 1 (1 : Nat), iV (1 : Int), iV (0 : Int), V.raw (.bool true), iV (0 : Int), .ptr 1 0, V.raw (.agg { toList := [.int .i64 (100 : Int), .int .i64 (200 : Int), .int .i64 (1 : Int)] }), .ptr 10 0, iV (100 : Int), uV, uV, uV, uV, uV, uV, uV, uV, uV, uV, uV, uV, uV, uV, uV, uV] [some (.cells [iV (0 : Int), iV (1 : Int), iV (60 : Int), V.raw (Value.slice none (0 : Nat) (0 : Nat)), V.raw (.bool false)] (76 : Nat) .ro), some (.cells [iV (100 : Int), iV (200 : Int), iV (1 : Int)] (78 : Nat) .ro), some (.cells [iV (0 : Int), iV (1 : Int), iV (60 : Int), V.raw (Value.slice none (0 : Nat) (0 : Nat)), V.raw (.bool false)] 76 .rw), some (.cells [iV (100 : Int), iV (200 : Int), iV (1 : Int)] 78 .rw), some (.cells [.slo 1 (1 : Nat), iV (1 : Int), V.raw (Value.slice none (0 : Nat) (0 : Nat)), V.raw (Value.slice none (0 : Nat) (0 : Nat))] 125 .rw), some (.cells [.ptr 4 0] 122 .rw), some (.cells [iV (0 : Int), iV (1 : Int), iV (60 : Int), V.raw (Value.slice none (0 : Nat) (0 : Nat)), V.raw (.bool false)] 76 .rw), some (.cells [iV (0 : Int), iV (0 : Int), iV (0 : Int), iV (0 : Int), iV (0 : Int), iV (0 : Int), iV (0 : Int)] 129 .rw), some (.cells [.slo 1 (1 : Nat)] 57 .rw), some (Blk.rcd { t := [.slo 0 (1 : Nat), .slo 1 (1 : Nat), iV (1 : Int), uV, uV, uV, V.raw (Value.slice none (0 : Nat) (0 : Nat)), iV (0 : Int), iV (0 : Int), .ptr 5 0, uV, .ptr 6 0, .ptr 7 0, uV, uV, uV, uV, .slo 0 (1 : Nat), .slo 1 (1 : Nat), iV (1 : Int), iV (0 : Int), iV (0 : Int), V.raw (.bool false), uV, .slo 1 (1 : Nat), iV (1 : Int), V.agg [.slo 1 (1 : Nat), iV (1 : Int), V.raw (Value.slice none (0 : Nat) (0 : Nat)), V.raw (Value.slice none (0 : Nat) (0 : Nat))], .ptr 4 0, .slo 0 (1 : Nat), iV (1 : Int), iV (0 : Int), V.raw (.bool true), .ptr 0 0, V.raw (.agg { toList := [.int .i64 (0 : Int), .int .i64 (1 : Int), .int .i64 (60 : Int), Value.slice none (0 : Nat) (0 : Nat), .bool false] }), .slo 1 (1 : Nat), V.fn (Fn.func (110 : Nat)) [] [.ptr 8 0], uV, uV, uV, uV, uV, uV, uV, uV, uV, uV, uV, uV, uV, uV, uV, uV, uV, uV, uV, uV, uV, uV, uV, uV, uV, uV, uV, uV, uV, uV, uV, uV, uV, uV, uV, uV, uV, uV, uV, uV, uV, uV, uV, uV, uV, uV, uV, uV, uV, uV, uV, uV, uV, uV, uV, uV], f := (42 : Nat), i := (0 : Nat), st := RSt.ready }), some (.cells [iV (100 : Int), iV (200 : Int), iV (1 : Int)] 78 .rw)] (Ex.ret) [V.yld (9 : Nat), .ptr 8 0, .any 2, iV (59 : Int), iV (0 : Int), .ptr 10 0, iV (159 : Int), .slo 1 (1 : Nat), iV (1 : Int), iV (0 : Int), V.raw (.bool true), .any 11, .any 12, .any 13, .any 14, .any 15, .any 16, .any 17, .any 18, .any 19, .any 20, .any 21, .any 22, .any 23, .any 24, .any 25, .any 26, .any 27, .any 28, .any 29, .any 30, .any 31] [some (.cells [iV (0 : Int), iV (1 : Int), iV (60 : Int), V.raw (Value.slice none (0 : Nat) (0 : Nat)), V.raw (.bool false)] (76 : Nat) .ro), some (.cells [iV (100 : Int), iV (200 : Int), iV (1 : Int)] (78 : Nat) .ro), some (.cells [iV (0 : Int), iV (1 : Int), iV (60 : Int), V.raw (Value.slice none (0 : Nat) (0 : Nat)), V.raw (.bool false)] 76 .rw), some (.cells [iV (100 : Int), iV (200 : Int), iV (1 : Int)] 78 .rw), some (.cells [.slo 1 (1 : Nat), iV (1 : Int), .slo 11 (1 : Nat), .slo 12 (1 : Nat)] 125 .rw), some (.cells [.ptr 4 0] 122 .rw), some (.cells [iV (0 : Int), iV (1 : Int), iV (60 : Int), V.raw (Value.slice none (0 : Nat) (0 : Nat)), V.raw (.bool false)] 76 .rw), some (.cells [iV (60 : Int), iV (0 : Int), iV (100 : Int), iV (0 : Int), iV (59 : Int), iV (159 : Int), iV (0 : Int)] 129 .rw), some (.cells [.slo 1 (1 : Nat)] 57 .rw), some (Blk.rcd { t := [.slo 0 (1 : Nat), .slo 1 (1 : Nat), iV (1 : Int), uV, uV, uV, V.raw (Value.slice none (0 : Nat) (0 : Nat)), iV (0 : Int), iV (0 : Int), .ptr 5 0, uV, .ptr 6 0, .ptr 7 0, uV, uV, uV, uV, .slo 0 (1 : Nat), .slo 1 (1 : Nat), iV (1 : Int), iV (0 : Int), iV (0 : Int), V.raw (.bool false), uV, .slo 1 (1 : Nat), iV (1 : Int), V.agg [.slo 1 (1 : Nat), iV (1 : Int), V.raw (Value.slice none (0 : Nat) (0 : Nat)), V.raw (Value.slice none (0 : Nat) (0 : Nat))], .ptr 4 0, .slo 0 (1 : Nat), iV (1 : Int), iV (0 : Int), V.raw (.bool true), .ptr 0 0, V.raw (.agg { toList := [.int .i64 (0 : Int), .int .i64 (1 : Int), .int .i64 (60 : Int), Value.slice none (0 : Nat) (0 : Nat), .bool false] }), .slo 1 (1 : Nat), V.fn (Fn.func (110 : Nat)) [] [.ptr 8 0], uV, uV, uV, uV, uV, uV, uV, uV, uV, uV, uV, uV, uV, uV, uV, uV, uV, uV, uV, uV, uV, uV, uV, uV, uV, uV, uV, uV, uV, uV, uV, uV, uV, uV, uV, uV, uV, uV, uV, uV, uV, uV, uV, uV, uV, uV, uV, uV, uV, uV, uV, uV, uV, uV, uV, uV], f := (42 : Nat), i := (0 : Nat), st := RSt.done (Ex.exit (1 : Nat)) }), some (.cells [iV (100 : Int), iV (200 : Int), iV (1 : Int)] 78 .rw), some (.cells [iV (0 : Int), iV (1 : Int), iV (60 : Int), V.raw (Value.slice none (0 : Nat) (0 : Nat)), V.raw (.bool false)] 76 (.row 5)), some (.cells [iV (60 : Int), iV (0 : Int), iV (100 : Int), iV (0 : Int), iV (59 : Int), iV (159 : Int), iV (0 : Int)] 129 (.row 7))]), (inR IntKind.i64 (1 : Int)), (false = false), ((0 : Int) ≤ (1 : Int) ∧ (1 : Int) ≤ (1 : Int) ∧ (16 : Int) ≤ (281474976710656 : Int) ∧ (1 : Int) ≤ (9223372036854775807 : Int)), (true = true), ((0 : Int) ≤ (0 : Int) ∧ (0 : Int) < (1 : Int)), (false = false), (inR IntKind.i64 (160 : Int)), ((0 : Int) ≤ (0 : Int) ∧ (0 : Int) < (1 : Int)), (inR IntKind.i64 (1 : Int)), (false = false)]) (by kernel_rfl)
    ⟨rfl, rfl, rfl, rfl, rfl, rfl, rfl, (by omega), rfl, rfl, rfl, rfl, rfl, rfl, rfl, rfl, rfl, rfl, rfl, rfl, rfl, rfl, inR_i64 (by omega) (by omega), rfl, rfl, rfl, (by omega), rfl, rfl, rfl, rfl, rfl, rfl, rfl, rfl, rfl, inR_i64 (by omega) (by omega), inR_i64 (by omega) (by omega), inR_i64 (by omega) (by omega), rfl, rfl, rfl, rfl, rfl, (by omega), rfl, (by omega), (by
      refine Runs.pre (fun b e => by cases e) (fun RT RH => ?_) (sle_loop)
      exact reshape2 (lim := 0) 11 (t := [V.yld (9 : Nat), .ptr 8 0, uV, iV (0 : Int), iV (0 : Int), .ptr 10 0, iV (100 : Int), .slo 1 (1 : Nat), iV (1 : Int), iV (0 : Int), V.raw (.bool true), iV (0 : Int), .ptr 1 0, V.raw (.agg { toList := [.int .i64 (100 : Int), .int .i64 (200 : Int), .int .i64 (1 : Int)] }), .ptr 10 0, iV (100 : Int), uV, uV, uV, uV, uV, uV, uV, uV, uV, uV, uV, uV, uV, uV, uV, uV]) (h := [some (.cells [iV (0 : Int), iV (1 : Int), iV (60 : Int), V.raw (Value.slice none (0 : Nat) (0 : Nat)), V.raw (.bool false)] (76 : Nat) .ro), some (.cells [iV (100 : Int), iV (200 : Int), iV (1 : Int)] (78 : Nat) .ro), some (.cells [iV (0 : Int), iV (1 : Int), iV (60 : Int), V.raw (Value.slice none (0 : Nat) (0 : Nat)), V.raw (.bool false)] 76 .rw), some (.cells [iV (100 : Int), iV (200 : Int), iV (1 : Int)] 78 .rw), some (.cells [.slo 1 (1 : Nat), iV (1 : Int), V.raw (Value.slice none (0 : Nat) (0 : Nat)), V.raw (Value.slice none (0 : Nat) (0 : Nat))] 125 .rw), some (.cells [.ptr 4 0] 122 .rw), some (.cells [iV (0 : Int), iV (1 : Int), iV (60 : Int), V.raw (Value.slice none (0 : Nat) (0 : Nat)), V.raw (.bool false)] 76 .rw), some (.cells [iV (0 : Int), iV (0 : Int), iV (0 : Int), iV (0 : Int), iV (0 : Int), iV (0 : Int), iV (0 : Int)] 129 .rw), some (.cells [.slo 1 (1 : Nat)] 57 .rw), some (Blk.rcd { t := [.slo 0 (1 : Nat), .slo 1 (1 : Nat), iV (1 : Int), uV, uV, uV, V.raw (Value.slice none (0 : Nat) (0 : Nat)), iV (0 : Int), iV (0 : Int), .ptr 5 0, uV, .ptr 6 0, .ptr 7 0, uV, uV, uV, uV, .slo 0 (1 : Nat), .slo 1 (1 : Nat), iV (1 : Int), iV (0 : Int), iV (0 : Int), V.raw (.bool false), uV, .slo 1 (1 : Nat), iV (1 : Int), V.agg [.slo 1 (1 : Nat), iV (1 : Int), V.raw (Value.slice none (0 : Nat) (0 : Nat)), V.raw (Value.slice none (0 : Nat) (0 : Nat))], .ptr 4 0, .slo 0 (1 : Nat), iV (1 : Int), iV (0 : Int), V.raw (.bool true), .ptr 0 0, V.raw (.agg { toList := [.int .i64 (0 : Int), .int .i64 (1 : Int), .int .i64 (60 : Int), Value.slice none (0 : Nat) (0 : Nat), .bool false] }), .slo 1 (1 : Nat), V.fn (Fn.func (110 : Nat)) [] [.ptr 8 0], uV, uV, uV, uV, uV, uV, uV, uV, uV, uV, uV, uV, uV, uV, uV, uV, uV, uV, uV, uV, uV, uV, uV, uV, uV, uV, uV, uV, uV, uV, uV, uV, uV, uV, uV, uV, uV, uV, uV, uV, uV, uV, uV, uV, uV, uV, uV, uV, uV, uV, uV, uV, uV, uV, uV, uV], f := (42 : Nat), i := (0 : Nat), st := RSt.ready }), some (.cells [iV (100 : Int), iV (200 : Int), iV (1 : Int)] 78 .rw)]) cfx_G rfl [] (by kernel_rfl) (by kernel_rfl) (by repeat first | exact ents_nil | refine ents_none ?_ | refine ents_map rfl rfl ?_ | refine ents_raw (ints_all _) rfl rfl ?_ | refine ents_raw (bools_all _) rfl rfl ?_ | refine ents_raw (mix_all _ _) rfl rfl ?_ | refine ents_say rfl rfl rfl rfl ?_ | refine ents_nilC rfl rfl ?_) RT RH), inR_i64 (by omega) (by omega), rfl, (by first | assumption | omega | (simp_all; done) | (simp_all; omega)), rfl, (by omega), rfl, inR_i64 (by omega) (by omega), (by omega), inR_i64 (by omega) (by omega), rfl, trivial⟩) (by kernel_rfl) (fun RT RH => reshape2 (lim := 0) 2 cfx_G rfl [some 13] (by kernel_rfl) (by kernel_rfl) (by exact (ents_say rfl rfl rfl rfl (ents_say rfl rfl rfl rfl (ents_say rfl rfl rfl rfl (ents_nil))))) RT RH)
end Go.Proofs.Ytcibaankajfhlaa
end
section
set_option maxRecDepth 100000
namespace Go.Proofs.Ytcibaankajfhlaa
open Go Go.RowKit Go.Proofs.Ytcibaankajfhlaa.E2
def gmo_T (n a b : Int) (i m : Int) : List V := [V.yld (4 : Nat), .ptr 3 0, .any 2, iV m, .any 4, .any 5, iV n, iV i, .any 8, .any 9, .any 10, .any 11, .any 12, .any 13, .any 14, .any 15, .any 16, .any 17, .any 18, .any 19, .any 20, .any 21, .any 22, .any 23, .any 24, .any 25, .any 26]
def gmo_H (n a b : Int) (i m : Int) : Heap := [some (.cells [iV a] 3 .rw), some (.cells [iV b] 3 .rw), some (.cells [iV (0 : Int)] 3 .rw), some (.cells [iV n] 3 .rw), some (Blk.rcd { t := [iV n, iV a, iV b, uV, .ptr 0 0, .ptr 1 0, iV (0 : Int), iV (0 : Int), iV (0 : Int), .ptr 2 0, uV, uV, iV n, iV (0 : Int), iV (0 : Int), V.raw (.bool false), uV, iV a, iV n, iV (n - (1 : Int)), V.raw (.bool (decide (a ≤ n - (1 : Int)))), V.raw (.bool !decide (a ≤ n - (1 : Int))), V.lit false, iV b, iV n, iV (n - (1 : Int)), V.raw (.bool (decide (b ≤ n - (1 : Int)))), V.raw (.bool !decide (b ≤ n - (1 : Int))), V.raw (.bool !decide (b ≤ n - (1 : Int))), V.lit false, iV a, iV b, V.raw (.bool (decide (a = b))), V.raw (.bool (decide (a = b))), iV n, V.fn (Fn.func (104 : Nat)) [] [.ptr 3 0], uV, uV, uV, uV, uV, uV, uV, uV, uV, uV, uV, uV, uV], f := (35 : Nat), i := (0 : Nat), st := RSt.ready })]
def gmi_T (n a b : Int) (i m0 : Int) (k m : Int) : List V := [V.yld (4 : Nat), .ptr 3 0, .any 2, iV m, iV i, iV k, iV n, iV i, .any 8, .any 9, .any 10, .any 11, .any 12, .any 13, .any 14, .any 15, .any 16, .any 17, .any 18, .any 19, .any 20, .any 21, .any 22, .any 23, .any 24, .any 25, .any 26]
def gmi_H (n a b : Int) (i m0 : Int) (k m : Int) : Heap := [some (.cells [iV a] 3 .rw), some (.cells [iV b] 3 .rw), some (.cells [iV (0 : Int)] 3 .rw), some (.cells [iV n] 3 .rw), some (Blk.rcd { t := [iV n, iV a, iV b, uV, .ptr 0 0, .ptr 1 0, iV (0 : Int), iV (0 : Int), iV (0 : Int), .ptr 2 0, uV, uV, iV n, iV (0 : Int), iV (0 : Int), V.raw (.bool false), uV, iV a, iV n, iV (n - (1 : Int)), V.raw (.bool (decide (a ≤ n - (1 : Int)))), V.raw (.bool !decide (a ≤ n - (1 : Int))), V.lit false, iV b, iV n, iV (n - (1 : Int)), V.raw (.bool (decide (b ≤ n - (1 : Int)))), V.raw (.bool !decide (b ≤ n - (1 : Int))), V.raw (.bool !decide (b ≤ n - (1 : Int))), V.lit false, iV a, iV b, V.raw (.bool (decide (a = b))), V.raw (.bool (decide (a = b))), iV n, V.fn (Fn.func (104 : Nat)) [] [.ptr 3 0], uV, uV, uV, uV, uV, uV, uV, uV, uV, uV, uV, uV, uV], f := (35 : Nat), i := (0 : Nat), st := RSt.ready })]
def gmi_T1 (n a b : Int) (i m0 : Int) (k m : Int) : List V := [V.yld (4 : Nat), .ptr 3 0, .any 2, iV m, iV i, iV k, iV n, iV i, .any 8, .any 9, .any 10, .any 11, .any 12, .any 13, .any 14, .any 15, .any 16, .any 17, .any 18, .any 19, .any 20, .any 21, .any 22, .any 23, .any 24, .any 25, .any 26]
def gmi_H1 (n a b : Int) (i m0 : Int) (k m : Int) : Heap := [some (.cells [iV a] 3 .rw), some (.cells [iV b] 3 .rw), some (.cells [iV m] 3 .rw), some (.cells [iV n] 3 .rw), some (Blk.rcd { t := [iV n, iV a, iV b, uV, .ptr 0 0, .ptr 1 0, iV (0 : Int), iV (0 : Int), iV (0 : Int), .ptr 2 0, uV, uV, iV n, iV (0 : Int), iV (0 : Int), V.raw (.bool false), uV, iV a, iV n, iV (n - (1 : Int)), V.raw (.bool (decide (a ≤ n - (1 : Int)))), V.raw (.bool !decide (a ≤ n - (1 : Int))), V.lit false, iV b, iV n, iV (n - (1 : Int)), V.raw (.bool (decide (b ≤ n - (1 : Int)))), V.raw (.bool !decide (b ≤ n - (1 : Int))), V.raw (.bool !decide (b ≤ n - (1 : Int))), V.lit false, iV a, iV b, V.raw (.bool (decide (a = b))), V.raw (.bool (decide (a = b))), iV n, V.fn (Fn.func (104 : Nat)) [] [.ptr 3 0], uV, uV, uV, uV, uV, uV, uV, uV, uV, uV, uV, uV, uV], f := (35 : Nat), i := (0 : Nat), st := RSt.done (Ex.exit (0 : Nat)) })]
theorem gmi_1 (n a b : Int) (hn1 : 2 ≤ n) (hn2 : n ≤ 16) (ha1 : 0 ≤ a) (ha2 : a < n) (hb1 : 0 ≤ b) (hb2 : b < n) (hab : ¬ a = b) (i m0 : Int) (hi1 : 0 ≤ i) (hi2 : i < n) (hmm1 : 0 ≤ m0) (hmm2 : m0 ≤ 1000) (k m : Int) (hk1 : i < k) (hk2 : k ≤ n) (hm1 : 0 ≤ m) (hm2 : m ≤ 2000) (f0 : k < n) (f1 : (decide (i = if b < a then b else a) && (decide (k = if b > a then b else a) && true)) = true) : Runs cfx 0 5 none (loopOf cfx.P 104 1) (gmi_T n a b i m0 k m) (gmi_H n a b i m0 k m) (Ex.ret) (gmi_T1 n a b i m0 k m) (gmi_H1 n a b i m0 k m) := by
  refine Runs.post (t1 := [V.yld (4 : Nat), .ptr 3 0, .any 2, iV m, iV i, iV k, iV n, iV i, .any 8, .any 9, .any 10, .any 11, iV k, iV n, V.raw (.bool (decide (k < n))), .any 15, .any 16, V.yld (4 : Nat), iV m, iV i, iV k, V.raw (.agg { toList := [.int .i64 i, .int .i64 k] }), V.raw (.bool false), V.raw (.bool true), .any 24, .any 25, .any 26]) (h1 := [some (.cells [iV a] 3 .rw), some (.cells [iV b] 3 .rw), some (.cells [iV m] 3 .rw), some (.cells [iV n] 3 .rw), some (Blk.rcd { t := [iV n, iV a, iV b, uV, .ptr 0 0, .ptr 1 0, iV (0 : Int), iV (0 : Int), iV (0 : Int), .ptr 2 0, uV, uV, iV n, iV (0 : Int), iV (0 : Int), V.raw (.bool false), uV, iV a, iV n, iV (n - (1 : Int)), V.raw (.bool (decide (a ≤ n - (1 : Int)))), V.raw (.bool !decide (a ≤ n - (1 : Int))), V.lit false, iV b, iV n, iV (n - (1 : Int)), V.raw (.bool (decide (b ≤ n - (1 : Int)))), V.raw (.bool !decide (b ≤ n - (1 : Int))), V.raw (.bool !decide (b ≤ n - (1 : Int))), V.lit false, iV a, iV b, V.raw (.bool (decide (a = b))), V.raw (.bool (decide (a = b))), iV n, V.fn (Fn.func (104 : Nat)) [] [.ptr 3 0], uV, uV, uV, uV, uV, uV, uV, uV, uV, uV, uV, uV, uV], f := (35 : Nat), i := (0 : Nat), st := RSt.done (Ex.exit (0 : Nat)) }), some (.cells [iV i, iV k] 71 .rw)]) (body_of cfx_mixed cfx_call (Nat.zero_le _) (rnd := none) (fi := 0) (k := 0) (n := 40) (n0 := 5) (ans := [Ans.br true, Ans.br true, Ans.br true]) (cons := [(decide (k < n) = true), ((decide (i = if b < a then b else a) && (decide (k = if b > a then b else a) && true)) = true), (true = true)]) (by kernel_rfl)
    ⟨(by first | assumption | (simp only [decide_eq_true_eq, decide_eq_false_iff_not, Bool.not_eq_true', Bool.not_eq_false']; first | assumption | omega) | (simp only [decide_eq_true_eq, decide_eq_false_iff_not, Bool.not_eq_true', Bool.not_eq_false']; done) | omega | (simp_all; done) | (simp_all; omega)), (by first | assumption | (simp only [decide_eq_true_eq, decide_eq_false_iff_not, Bool.not_eq_true', Bool.not_eq_false']; first | assumption | omega) | (simp only [decide_eq_true_eq, decide_eq_false_iff_not, Bool.not_eq_true', Bool.not_eq_false']; done) | omega | (simp_all; done) | (simp_all; omega)), rfl, trivial⟩ (Nat.le_of_ble_eq_true rfl) (Nat.le_of_ble_eq_true rfl) noRnd (noRanges (by kernel_rfl))) (fun RT RH => reshape2 (lim := 0) 5 cfx_G rfl [] (by kernel_rfl) (by kernel_rfl) (by exact (ents_say rfl rfl rfl rfl (ents_say rfl rfl rfl rfl (ents_say rfl rfl rfl rfl (ents_say rfl rfl rfl rfl (ents_say rfl rfl rfl rfl (ents_nil))))))) RT RH)
theorem gmi_2 (n a b : Int) (hn1 : 2 ≤ n) (hn2 : n ≤ 16) (ha1 : 0 ≤ a) (ha2 : a < n) (hb1 : 0 ≤ b) (hb2 : b < n) (hab : ¬ a = b) (i m0 : Int) (hi1 : 0 ≤ i) (hi2 : i < n) (hmm1 : 0 ≤ m0) (hmm2 : m0 ≤ 1000) (k m : Int) (hk1 : i < k) (hk2 : k ≤ n) (hm1 : 0 ≤ m) (hm2 : m ≤ 2000) (f0 : k < n) (f1 : (decide (i = if b < a then b else a) && (decide (k = if b > a then b else a) && true)) = false) : Runs cfx 0 5 none (loopOf cfx.P 104 1) (gmi_T n a b i m0 k m) (gmi_H n a b i m0 k m) (Ex.normal) (gmi_T n a b i m0 (k + (1 : Int)) (m + (1 : Int))) (gmi_H n a b i m0 (k + (1 : Int)) (m + (1 : Int))) := by
  refine Runs.post (t1 := [V.yld (4 : Nat), .ptr 3 0, .any 2, iV (m + (1 : Int)), iV i, iV (k + (1 : Int)), iV n, iV i, .any 8, .any 9, .any 10, .any 11, iV k, iV n, V.raw (.bool (decide (k < n))), iV k, iV (k + (1 : Int)), V.yld (4 : Nat), iV m, iV i, iV k, V.raw (.agg { toList := [.int .i64 i, .int .i64 k] }), V.raw (.bool true), V.raw (.bool false), iV m, iV (m + (1 : Int)), .any 26]) (h1 := [some (.cells [iV a] 3 .rw), some (.cells [iV b] 3 .rw), some (.cells [iV (0 : Int)] 3 .rw), some (.cells [iV n] 3 .rw), some (Blk.rcd { t := [iV n, iV a, iV b, uV, .ptr 0 0, .ptr 1 0, iV (0 : Int), iV (0 : Int), iV (0 : Int), .ptr 2 0, uV, uV, iV n, iV (0 : Int), iV (0 : Int), V.raw (.bool false), uV, iV a, iV n, iV (n - (1 : Int)), V.raw (.bool (decide (a ≤ n - (1 : Int)))), V.raw (.bool !decide (a ≤ n - (1 : Int))), V.lit false, iV b, iV n, iV (n - (1 : Int)), V.raw (.bool (decide (b ≤ n - (1 : Int)))), V.raw (.bool !decide (b ≤ n - (1 : Int))), V.raw (.bool !decide (b ≤ n - (1 : Int))), V.lit false, iV a, iV b, V.raw (.bool (decide (a = b))), V.raw (.bool (decide (a = b))), iV n, V.fn (Fn.func (104 : Nat)) [] [.ptr 3 0], uV, uV, uV, uV, uV, uV, uV, uV, uV, uV, uV, uV, uV], f := (35 : Nat), i := (0 : Nat), st := RSt.ready }), some (.cells [iV i, iV k] 71 .rw)]) (body_of cfx_mixed cfx_call (Nat.zero_le _) (rnd := none) (fi := 0) (k := 0) (n := 40) (n0 := 5) (ans := [Ans.br true, Ans.br false, Ans.br false]) (cons := [(decide (k < n) = true), ((decide (i = if b < a then b else a) && (decide (k = if b > a then b else a) && true)) = false), (false = false), (inR IntKind.i64 (m + (1 : Int))), (inR IntKind.i64 (k + (1 : Int)))]) (by kernel_rfl)
    ⟨(by first | assumption | (simp only [decide_eq_true_eq, decide_eq_false_iff_not, Bool.not_eq_true', Bool.not_eq_false']; first | assumption | omega) | (simp only [decide_eq_true_eq, decide_eq_false_iff_not, Bool.not_eq_true', Bool.not_eq_false']; done) | omega | (simp_all; done) | (simp_all; omega)), (by first | assumption | (simp only [decide_eq_true_eq, decide_eq_false_iff_not, Bool.not_eq_true', Bool.not_eq_false']; first | assumption | omega) | (simp only [decide_eq_true_eq, decide_eq_false_iff_not, Bool.not_eq_true', Bool.not_eq_false']; done) | omega | (simp_all; done) | (simp_all; omega)), rfl, inR_i64 (by omega) (by omega), inR_i64 (by omega) (by omega), trivial⟩ (Nat.le_of_ble_eq_true rfl) (Nat.le_of_ble_eq_true rfl) noRnd (noRanges (by kernel_rfl))) (fun RT RH => reshape2 (lim := 0) 5 cfx_G rfl [] (by kernel_rfl) (by kernel_rfl) (by exact (ents_say rfl rfl rfl rfl (ents_say rfl rfl rfl rfl (ents_say rfl rfl rfl rfl (ents_say rfl rfl rfl rfl (ents_say rfl rfl rfl rfl (ents_nil))))))) RT RH)
def gmi_T3 (n a b : Int) (i m0 : Int) (k m : Int) : List V := [V.yld (4 : Nat), .ptr 3 0, .any 2, iV m, iV i, iV k, iV n, iV i, .any 8, .any 9, .any 10, .any 11, .any 12, .any 13, .any 14, .any 15, .any 16, .any 17, .any 18, .any 19, .any 20, .any 21, .any 22, .any 23, .any 24, .any 25, .any 26]
def gmi_H3 (n a b : Int) (i m0 : Int) (k m : Int) : Heap := [some (.cells [iV a] 3 .rw), some (.cells [iV b] 3 .rw), some (.cells [iV (0 : Int)] 3 .rw), some (.cells [iV n] 3 .rw), some (Blk.rcd { t := [iV n, iV a, iV b, uV, .ptr 0 0, .ptr 1 0, iV (0 : Int), iV (0 : Int), iV (0 : Int), .ptr 2 0, uV, uV, iV n, iV (0 : Int), iV (0 : Int), V.raw (.bool false), uV, iV a, iV n, iV (n - (1 : Int)), V.raw (.bool (decide (a ≤ n - (1 : Int)))), V.raw (.bool !decide (a ≤ n - (1 : Int))), V.lit false, iV b, iV n, iV (n - (1 : Int)), V.raw (.bool (decide (b ≤ n - (1 : Int)))), V.raw (.bool !decide (b ≤ n - (1 : Int))), V.raw (.bool !decide (b ≤ n - (1 : Int))), V.lit false, iV a, iV b, V.raw (.bool (decide (a = b))), V.raw (.bool (decide (a = b))), iV n, V.fn (Fn.func (104 : Nat)) [] [.ptr 3 0], uV, uV, uV, uV, uV, uV, uV, uV, uV, uV, uV, uV, uV], f := (35 : Nat), i := (0 : Nat), st := RSt.ready })]
theorem gmi_3 (n a b : Int) (hn1 : 2 ≤ n) (hn2 : n ≤ 16) (ha1 : 0 ≤ a) (ha2 : a < n) (hb1 : 0 ≤ b) (hb2 : b < n) (hab : ¬ a = b) (i m0 : Int) (hi1 : 0 ≤ i) (hi2 : i < n) (hmm1 : 0 ≤ m0) (hmm2 : m0 ≤ 1000) (k m : Int) (hk1 : i < k) (hk2 : k ≤ n) (hm1 : 0 ≤ m) (hm2 : m ≤ 2000) (f0 : ¬k < n) : Runs cfx 0 5 none (loopOf cfx.P 104 1) (gmi_T n a b i m0 k m) (gmi_H n a b i m0 k m) (Ex.exit (2 : Nat)) (gmi_T3 n a b i m0 k m) (gmi_H3 n a b i m0 k m) := by
  refine Runs.post (t1 := [V.yld (4 : Nat), .ptr 3 0, .any 2, iV m, iV i, iV k, iV n, iV i, .any 8, .any 9, .any 10, .any 11, iV k, iV n, V.raw (.bool (decide (k < n))), .any 15, .any 16, .any 17, .any 18, .any 19, .any 20, .any 21, .any 22, .any 23, .any 24, .any 25, .any 26]) (h1 := [some (.cells [iV a] 3 .rw), some (.cells [iV b] 3 .rw), some (.cells [iV (0 : Int)] 3 .rw), some (.cells [iV n] 3 .rw), some (Blk.rcd { t := [iV n, iV a, iV b, uV, .ptr 0 0, .ptr 1 0, iV (0 : Int), iV (0 : Int), iV (0 : Int), .ptr 2 0, uV, uV, iV n, iV (0 : Int), iV (0 : Int), V.raw (.bool false), uV, iV a, iV n, iV (n - (1 : Int)), V.raw (.bool (decide (a ≤ n - (1 : Int)))), V.raw (.bool !decide (a ≤ n - (1 : Int))), V.lit false, iV b, iV n, iV (n - (1 : Int)), V.raw (.bool (decide (b ≤ n - (1 : Int)))), V.raw (.bool !decide (b ≤ n - (1 : Int))), V.raw (.bool !decide (b ≤ n - (1 : Int))), V.lit false, iV a, iV b, V.raw (.bool (decide (a = b))), V.raw (.bool (decide (a = b))), iV n, V.fn (Fn.func (104 : Nat)) [] [.ptr 3 0], uV, uV, uV, uV, uV, uV, uV, uV, uV, uV, uV, uV, uV], f := (35 : Nat), i := (0 : Nat), st := RSt.ready })]) (body_of cfx_mixed cfx_call (Nat.zero_le _) (rnd := none) (fi := 0) (k := 0) (n := 40) (n0 := 5) (ans := [Ans.br false]) (cons := [(decide (k < n) = false)]) (by kernel_rfl)
    ⟨(by first | assumption | (simp only [decide_eq_true_eq, decide_eq_false_iff_not, Bool.not_eq_true', Bool.not_eq_false']; first | assumption | omega) | (simp only [decide_eq_true_eq, decide_eq_false_iff_not, Bool.not_eq_true', Bool.not_eq_false']; done) | omega | (simp_all; done) | (simp_all; omega)), trivial⟩ (Nat.le_of_ble_eq_true rfl) (Nat.le_of_ble_eq_true rfl) noRnd (noRanges (by kernel_rfl))) (fun RT RH => reshape2 (lim := 0) 5 cfx_G rfl [] (by kernel_rfl) (by kernel_rfl) (by exact (ents_say rfl rfl rfl rfl (ents_say rfl rfl rfl rfl (ents_say rfl rfl rfl rfl (ents_say rfl rfl rfl rfl (ents_say rfl rfl rfl rfl (ents_nil))))))) RT RH)
end Go.Proofs.Ytcibaankajfhlaa
end
section
set_option maxRecDepth 100000
namespace Go.Proofs.Ytcibaankajfhlaa
open Go Go.RowKit Go.Proofs.Ytcibaankajfhlaa.E2
theorem gm_miss (n a b : Int) (hn1 : 2 ≤ n) (hn2 : n ≤ 16) (ha1 : 0 ≤ a) (ha2 : a < n) (hb1 : 0 ≤ b) (hb2 : b < n) (hab : ¬ a = b) (i m0 : Int) (hi1 : 0 ≤ i) (hi2 : i < n) (hne : ¬ i = (if b < a then b else a)) (hmm1 : 0 ≤ m0) (hmm2 : m0 ≤ 1000) : Runs cfx 0 5 none (.loop (loopOf cfx.P 104 1)) (gmi_T n a b (i : Int) m0 (i + 1) (m0)) (gmi_H n a b (i : Int) m0 (i + 1) (m0)) (.exit 2) (gmi_T3 n a b (i : Int) m0 n (m0 + (n - 1 - i))) (gmi_H3 n a b (i : Int) m0 n (m0 + (n - 1 - i))) := by
  have key : Runs cfx 0 5 none (.loop (loopOf cfx.P 104 1)) (gmi_T n a b (i : Int) m0 (i + 1 + ((0 : Nat) : Int)) (m0 + ((0 : Nat) : Int))) (gmi_H n a b (i : Int) m0 (i + 1 + ((0 : Nat) : Int)) (m0 + ((0 : Nat) : Int))) (.exit 2) (gmi_T3 n a b (i : Int) m0 n (m0 + (n - 1 - i))) (gmi_H3 n a b (i : Int) m0 n (m0 + (n - 1 - i))) :=
    upto noRnd (fun j => gmi_T n a b (i : Int) m0 (i + 1 + (j : Int)) (m0 + (j : Int))) (fun j => gmi_H n a b (i : Int) m0 (i + 1 + (j : Int)) (m0 + (j : Int))) (n - (i + 1)).toNat (by simp) (fun j hj => by
      have h := gmi_2 n a b hn1 hn2 ha1 ha2 hb1 hb2 hab i m0 hi1 hi2 hmm1 hmm2 (i + 1 + (j : Int)) (m0 + (j : Int)) (by omega) (by omega) (by omega) (by omega) (by omega) (by simp [hne])
      rw [show i + 1 + ((j + 1 : Nat) : Int) = i + 1 + (j : Int) + 1 by omega, show m0 + ((j + 1 : Nat) : Int) = m0 + (j : Int) + 1 by omega]
      exact h) (by
      have h := gmi_3 n a b hn1 hn2 ha1 ha2 hb1 hb2 hab i m0 hi1 hi2 hmm1 hmm2 n (m0 + (n - 1 - i)) (by omega) (by omega) (by omega) (by omega) (by omega)
      rw [show i + 1 + ((n - (i + 1)).toNat : Int) = n by omega, show m0 + ((n - (i + 1)).toNat : Int) = m0 + (n - 1 - i) by omega]
      exact h)
  rwa [show i + 1 + ((0 : Nat) : Int) = i + 1 by omega, show m0 + ((0 : Nat) : Int) = m0 by omega] at key
theorem gm_hit (n a b : Int) (hn1 : 2 ≤ n) (hn2 : n ≤ 16) (ha1 : 0 ≤ a) (ha2 : a < n) (hb1 : 0 ≤ b) (hb2 : b < n) (hab : ¬ a = b) (i q m0 : Int) (hi1 : 0 ≤ i) (hi2 : i < q) (hq : q < n) (hp : i = (if b < a then b else a)) (hqq : q = (if b > a then b else a)) (hmm1 : 0 ≤ m0) (hmm2 : m0 ≤ 1000) : Runs cfx 0 5 none (.loop (loopOf cfx.P 104 1)) (gmi_T n a b (i : Int) m0 (i + 1) (m0)) (gmi_H n a b (i : Int) m0 (i + 1) (m0)) (.ret) (gmi_T1 n a b (i : Int) m0 q (m0 + (q - i - 1))) (gmi_H1 n a b (i : Int) m0 q (m0 + (q - i - 1))) := by
  have key : Runs cfx 0 5 none (.loop (loopOf cfx.P 104 1)) (gmi_T n a b (i : Int) m0 (i + 1 + ((0 : Nat) : Int)) (m0 + ((0 : Nat) : Int))) (gmi_H n a b (i : Int) m0 (i + 1 + ((0 : Nat) : Int)) (m0 + ((0 : Nat) : Int))) .ret (gmi_T1 n a b (i : Int) m0 q (m0 + (q - i - 1))) (gmi_H1 n a b (i : Int) m0 q (m0 + (q - i - 1))) :=
    upto noRnd (fun j => gmi_T n a b (i : Int) m0 (i + 1 + (j : Int)) (m0 + (j : Int))) (fun j => gmi_H n a b (i : Int) m0 (i + 1 + (j : Int)) (m0 + (j : Int))) (q - (i + 1)).toNat (by simp) (fun j hj => by
      have h := gmi_2 n a b hn1 hn2 ha1 ha2 hb1 hb2 hab i m0 hi1 (by omega) hmm1 hmm2 (i + 1 + (j : Int)) (m0 + (j : Int)) (by omega) (by omega) (by omega) (by omega) (by omega) (by rw [← hp, ← hqq, show decide (i + 1 + (j : Int) = q) = false by simp; omega]; simp)
      rw [show i + 1 + ((j + 1 : Nat) : Int) = i + 1 + (j : Int) + 1 by omega, show m0 + ((j + 1 : Nat) : Int) = m0 + (j : Int) + 1 by omega]
      exact h) (by
      have h := gmi_1 n a b hn1 hn2 ha1 ha2 hb1 hb2 hab i m0 hi1 (by omega) hmm1 hmm2 q (m0 + (q - i - 1)) (by omega) (by omega) (by omega) (by omega) hq (by rw [← hp, ← hqq]; simp)
      rw [show i + 1 + ((q - (i + 1)).toNat : Int) = q by omega, show m0 + ((q - (i + 1)).toNat : Int) = m0 + (q - i - 1) by omega]
      exact h)
  rwa [show i + 1 + ((0 : Nat) : Int) = i + 1 by omega, show m0 + ((0 : Nat) : Int) = m0 by omega] at key
theorem gma_1 (n a b : Int) (hn1 : 2 ≤ n) (hn2 : n ≤ 16) (ha1 : 0 ≤ a) (ha2 : a < n) (hb1 : 0 ≤ b) (hb2 : b < n) (hab : ¬ a = b) (i m : Int) (hi1 : 0 ≤ i) (hi2 : i < n) (hm1 : 0 ≤ m) (hm2 : m ≤ 1000) (m2 : Int) (hR : Runs cfx 0 5 none (.loop (loopOf cfx.P 104 1)) (gmi_T n a b i m (i + 1) m) (gmi_H n a b i m (i + 1) m) (.exit 2) (gmi_T3 n a b i m n m2) (gmi_H3 n a b i m n m2))  : Runs cfx 0 5 none (loopOf cfx.P 104 0) (gmo_T n a b i m) (gmo_H n a b i m) (Ex.normal) (gmo_T n a b (i + (1 : Int)) m2) (gmo_H n a b (i + (1 : Int)) m2) := by
  refine Runs.post (t1 := [V.yld (4 : Nat), .ptr 3 0, .any 2, iV m2, iV i, iV n, iV n, iV (i + (1 : Int)), .any 8, .any 9, .any 10, .any 11, .any 12, .any 13, .any 14, .any 15, .any 16, .any 17, .any 18, .any 19, .any 20, .any 21, .any 22, .any 23, .any 24, .any 25, iV (i + (1 : Int))]) (h1 := [some (.cells [iV a] 3 .rw), some (.cells [iV b] 3 .rw), some (.cells [iV (0 : Int)] 3 .rw), some (.cells [iV n] 3 .rw), some (Blk.rcd { t := [iV n, iV a, iV b, uV, .ptr 0 0, .ptr 1 0, iV (0 : Int), iV (0 : Int), iV (0 : Int), .ptr 2 0, uV, uV, iV n, iV (0 : Int), iV (0 : Int), V.raw (.bool false), uV, iV a, iV n, iV (n - (1 : Int)), V.raw (.bool (decide (a ≤ n - (1 : Int)))), V.raw (.bool !decide (a ≤ n - (1 : Int))), V.lit false, iV b, iV n, iV (n - (1 : Int)), V.raw (.bool (decide (b ≤ n - (1 : Int)))), V.raw (.bool !decide (b ≤ n - (1 : Int))), V.raw (.bool !decide (b ≤ n - (1 : Int))), V.lit false, iV a, iV b, V.raw (.bool (decide (a = b))), V.raw (.bool (decide (a = b))), iV n, V.fn (Fn.func (104 : Nat)) [] [.ptr 3 0], uV, uV, uV, uV, uV, uV, uV, uV, uV, uV, uV, uV, uV], f := (35 : Nat), i := (0 : Nat), st := RSt.ready })]) (body_of cfx_mixed cfx_call (Nat.zero_le _) (rnd := none) (fi := 0) (k := 0) (n := 40) (n0 := 5) (ans := [Ans.br true, Ans.loop (Ex.exit (2 : Nat)) [V.yld (4 : Nat), .ptr 3 0, .any 2, iV m2, iV i, iV n, iV n, iV i, .any 8, .any 9, .any 10, .any 11, .any 12, .any 13, .any 14, .any 15, .any 16, .any 17, .any 18, .any 19, .any 20, .any 21, .any 22, .any 23, .any 24, .any 25, .any 26] [some (.cells [iV a] 3 .rw), some (.cells [iV b] 3 .rw), some (.cells [iV (0 : Int)] 3 .rw), some (.cells [iV n] 3 .rw), some (Blk.rcd { t := [iV n, iV a, iV b, uV, .ptr 0 0, .ptr 1 0, iV (0 : Int), iV (0 : Int), iV (0 : Int), .ptr 2 0, uV, uV, iV n, iV (0 : Int), iV (0 : Int), V.raw (.bool false), uV, iV a, iV n, iV (n - (1 : Int)), V.raw (.bool (decide (a ≤ n - (1 : Int)))), V.raw (.bool !decide (a ≤ n - (1 : Int))), V.lit false, iV b, iV n, iV (n - (1 : Int)), V.raw (.bool (decide (b ≤ n - (1 : Int)))), V.raw (.bool !decide (b ≤ n - (1 : Int))), V.raw (.bool !decide (b ≤ n - (1 : Int))), V.lit false, iV a, iV b, V.raw (.bool (decide (a = b))), V.raw (.bool (decide (a = b))), iV n, V.fn (Fn.func (104 : Nat)) [] [.ptr 3 0], uV, uV, uV, uV, uV, uV, uV, uV, uV, uV, uV, uV, uV], f := (35 : Nat), i := (0 : Nat), st := RSt.ready })]]) (cons := [(decide (i < n) = true), (inR IntKind.i64 (i + (1 : Int))), (Runs cfx 0 (5 : Nat) none (.loop (loopOf cfx.P 104 1)) [V.yld (4 : Nat), .ptr 3 0, .any 2, iV m, iV i, iV (i + (1 : Int)), iV n, iV i, V.raw (.bool (decide (i < n))), iV i, iV i, iV (i + (1 : Int)), .any 12, .any 13, .any 14, .any 15, .any 16, .any 17, .any 18, .any 19, .any 20, .any 21, .any 22, .any 23, .any 24, .any 25, .any 26] [some (.cells [iV a] 3 .rw), some (.cells [iV b] 3 .rw), some (.cells [iV (0 : Int)] 3 .rw), some (.cells [iV n] 3 .rw), some (Blk.rcd { t := [iV n, iV a, iV b, uV, .ptr 0 0, .ptr 1 0, iV (0 : Int), iV (0 : Int), iV (0 : Int), .ptr 2 0, uV, uV, iV n, iV (0 : Int), iV (0 : Int), V.raw (.bool false), uV, iV a, iV n, iV (n - (1 : Int)), V.raw (.bool (decide (a ≤ n - (1 : Int)))), V.raw (.bool !decide (a ≤ n - (1 : Int))), V.lit false, iV b, iV n, iV (n - (1 : Int)), V.raw (.bool (decide (b ≤ n - (1 : Int)))), V.raw (.bool !decide (b ≤ n - (1 : Int))), V.raw (.bool !decide (b ≤ n - (1 : Int))), V.lit false, iV a, iV b, V.raw (.bool (decide (a = b))), V.raw (.bool (decide (a = b))), iV n, V.fn (Fn.func (104 : Nat)) [] [.ptr 3 0], uV, uV, uV, uV, uV, uV, uV, uV, uV, uV, uV, uV, uV], f := (35 : Nat), i := (0 : Nat), st := RSt.ready })] (Ex.exit (2 : Nat)) [V.yld (4 : Nat), .ptr 3 0, .any 2, iV m2, iV i, iV n, iV n, iV i, .any 8, .any 9, .any 10, .any 11, .any 12, .any 13, .any 14, .any 15, .any 16, .any 17, .any 18, .any 19, .any 20, .any 21, .any 22, .any 23, .any 24, .any 25, .any 26] [some (.cells [iV a] 3 .rw), some (.cells [iV b] 3 .rw), some (.cells [iV (0 : Int)] 3 .rw), some (.cells [iV n] 3 .rw), some (Blk.rcd { t := [iV n, iV a, iV b, uV, .ptr 0 0, .ptr 1 0, iV (0 : Int), iV (0 : Int), iV (0 : Int), .ptr 2 0, uV, uV, iV n, iV (0 : Int), iV (0 : Int), V.raw (.bool false), uV, iV a, iV n, iV (n - (1 : Int)), V.raw (.bool (decide (a ≤ n - (1 : Int)))), V.raw (.bool !decide (a ≤ n - (1 : Int))), V.lit false, iV b, iV n, iV (n - (1 : Int)), V.raw (.bool (decide (b ≤ n - (1 : Int)))), V.raw (.bool !decide (b ≤ n - (1 : Int))), V.raw (.bool !decide (b ≤ n - (1 : Int))), V.lit false, iV a, iV b, V.raw (.bool (decide (a = b))), V.raw (.bool (decide (a = b))), iV n, V.fn (Fn.func (104 : Nat)) [] [.ptr 3 0], uV, uV, uV, uV, uV, uV, uV, uV, uV, uV, uV, uV, uV], f := (35 : Nat), i := (0 : Nat), st := RSt.ready })]), (inR IntKind.i64 (i + (1 : Int)))]) (by kernel_rfl)
    ⟨(by first | assumption | (simp only [decide_eq_true_eq, decide_eq_false_iff_not, Bool.not_eq_true', Bool.not_eq_false']; first | assumption | omega) | (simp only [decide_eq_true_eq, decide_eq_false_iff_not, Bool.not_eq_true', Bool.not_eq_false']; done) | omega | (simp_all; done) | (simp_all; omega)), inR_i64 (by omega) (by omega), (by
      refine Runs.pre (fun b e => by cases e) (fun RT RH => ?_) (hR)
      exact reshape2 (lim := 0) 5 (t := [V.yld (4 : Nat), .ptr 3 0, .any 2, iV m, iV i, iV (i + (1 : Int)), iV n, iV i, V.raw (.bool (decide (i < n))), iV i, iV i, iV (i + (1 : Int)), .any 12, .any 13, .any 14, .any 15, .any 16, .any 17, .any 18, .any 19, .any 20, .any 21, .any 22, .any 23, .any 24, .any 25, .any 26]) (h := [some (.cells [iV a] 3 .rw), some (.cells [iV b] 3 .rw), some (.cells [iV (0 : Int)] 3 .rw), some (.cells [iV n] 3 .rw), some (Blk.rcd { t := [iV n, iV a, iV b, uV, .ptr 0 0, .ptr 1 0, iV (0 : Int), iV (0 : Int), iV (0 : Int), .ptr 2 0, uV, uV, iV n, iV (0 : Int), iV (0 : Int), V.raw (.bool false), uV, iV a, iV n, iV (n - (1 : Int)), V.raw (.bool (decide (a ≤ n - (1 : Int)))), V.raw (.bool !decide (a ≤ n - (1 : Int))), V.lit false, iV b, iV n, iV (n - (1 : Int)), V.raw (.bool (decide (b ≤ n - (1 : Int)))), V.raw (.bool !decide (b ≤ n - (1 : Int))), V.raw (.bool !decide (b ≤ n - (1 : Int))), V.lit false, iV a, iV b, V.raw (.bool (decide (a = b))), V.raw (.bool (decide (a = b))), iV n, V.fn (Fn.func (104 : Nat)) [] [.ptr 3 0], uV, uV, uV, uV, uV, uV, uV, uV, uV, uV, uV, uV, uV], f := (35 : Nat), i := (0 : Nat), st := RSt.ready })]) cfx_G rfl [] (by kernel_rfl) (by kernel_rfl) (by repeat first | exact ents_nil | refine ents_none ?_ | refine ents_map rfl rfl ?_ | refine ents_raw (ints_all _) rfl rfl ?_ | refine ents_raw (bools_all _) rfl rfl ?_ | refine ents_raw (mix_all _ _) rfl rfl ?_ | refine ents_say rfl rfl rfl rfl ?_ | refine ents_nilC rfl rfl ?_) RT RH), inR_i64 (by omega) (by omega), trivial⟩ (Nat.le_of_ble_eq_true rfl) (Nat.le_of_ble_eq_true rfl) noRnd (noRanges (by kernel_rfl))) (fun RT RH => reshape2 (lim := 0) 5 cfx_G rfl [] (by kernel_rfl) (by kernel_rfl) (by exact (ents_say rfl rfl rfl rfl (ents_say rfl rfl rfl rfl (ents_say rfl rfl rfl rfl (ents_say rfl rfl rfl rfl (ents_say rfl rfl rfl rfl (ents_nil))))))) RT RH)
def gmb_T1 (n a b : Int) (i m : Int) (m2 q : Int) : List V := [V.yld (4 : Nat), .ptr 3 0, .any 2, iV m2, .any 4, .any 5, iV n, iV i, .any 8, .any 9, .any 10, .any 11, .any 12, .any 13, .any 14, .any 15, .any 16, .any 17, .any 18, .any 19, .any 20, .any 21, .any 22, .any 23, .any 24, .any 25, .any 26]
def gmb_H1 (n a b : Int) (i m : Int) (m2 q : Int) : Heap := [some (.cells [iV a] 3 .rw), some (.cells [iV b] 3 .rw), some (.cells [iV m2] 3 .rw), some (.cells [iV n] 3 .rw), some (Blk.rcd { t := [iV n, iV a, iV b, uV, .ptr 0 0, .ptr 1 0, iV (0 : Int), iV (0 : Int), iV (0 : Int), .ptr 2 0, uV, uV, iV n, iV (0 : Int), iV (0 : Int), V.raw (.bool false), uV, iV a, iV n, iV (n - (1 : Int)), V.raw (.bool (decide (a ≤ n - (1 : Int)))), V.raw (.bool !decide (a ≤ n - (1 : Int))), V.lit false, iV b, iV n, iV (n - (1 : Int)), V.raw (.bool (decide (b ≤ n - (1 : Int)))), V.raw (.bool !decide (b ≤ n - (1 : Int))), V.raw (.bool !decide (b ≤ n - (1 : Int))), V.lit false, iV a, iV b, V.raw (.bool (decide (a = b))), V.raw (.bool (decide (a = b))), iV n, V.fn (Fn.func (104 : Nat)) [] [.ptr 3 0], uV, uV, uV, uV, uV, uV, uV, uV, uV, uV, uV, uV, uV], f := (35 : Nat), i := (0 : Nat), st := RSt.done (Ex.exit (0 : Nat)) })]
theorem gmb_1 (n a b : Int) (hn1 : 2 ≤ n) (hn2 : n ≤ 16) (ha1 : 0 ≤ a) (ha2 : a < n) (hb1 : 0 ≤ b) (hb2 : b < n) (hab : ¬ a = b) (i m : Int) (hi1 : 0 ≤ i) (hi2 : i < n) (hm1 : 0 ≤ m) (hm2 : m ≤ 1000) (m2 q : Int) (hR : Runs cfx 0 5 none (.loop (loopOf cfx.P 104 1)) (gmi_T n a b i m (i + 1) m) (gmi_H n a b i m (i + 1) m) (.ret) (gmi_T1 n a b i m q m2) (gmi_H1 n a b i m q m2))  : Runs cfx 0 5 none (loopOf cfx.P 104 0) (gmo_T n a b i m) (gmo_H n a b i m) (Ex.ret) (gmb_T1 n a b i m m2 q) (gmb_H1 n a b i m m2 q) := by
  refine Runs.post (t1 := [V.yld (4 : Nat), .ptr 3 0, .any 2, iV m2, iV i, iV q, iV n, iV i, .any 8, .any 9, .any 10, .any 11, .any 12, .any 13, .any 14, .any 15, .any 16, .any 17, .any 18, .any 19, .any 20, .any 21, .any 22, .any 23, .any 24, .any 25, .any 26]) (h1 := [some (.cells [iV a] 3 .rw), some (.cells [iV b] 3 .rw), some (.cells [iV m2] 3 .rw), some (.cells [iV n] 3 .rw), some (Blk.rcd { t := [iV n, iV a, iV b, uV, .ptr 0 0, .ptr 1 0, iV (0 : Int), iV (0 : Int), iV (0 : Int), .ptr 2 0, uV, uV, iV n, iV (0 : Int), iV (0 : Int), V.raw (.bool false), uV, iV a, iV n, iV (n - (1 : Int)), V.raw (.bool (decide (a ≤ n - (1 : Int)))), V.raw (.bool !decide (a ≤ n - (1 : Int))), V.lit false, iV b, iV n, iV (n - (1 : Int)), V.raw (.bool (decide (b ≤ n - (1 : Int)))), V.raw (.bool !decide (b ≤ n - (1 : Int))), V.raw (.bool !decide (b ≤ n - (1 : Int))), V.lit false, iV a, iV b, V.raw (.bool (decide (a = b))), V.raw (.bool (decide (a = b))), iV n, V.fn (Fn.func (104 : Nat)) [] [.ptr 3 0], uV, uV, uV, uV, uV, uV, uV, uV, uV, uV, uV, uV, uV], f := (35 : Nat), i := (0 : Nat), st := RSt.done (Ex.exit (0 : Nat)) })]) (body_of cfx_mixed cfx_call (Nat.zero_le _) (rnd := none) (fi := 0) (k := 0) (n := 40) (n0 := 5) (ans := [Ans.br true, Ans.loop Ex.ret [V.yld (4 : Nat), .ptr 3 0, .any 2, iV m2, iV i, iV q, iV n, iV i, .any 8, .any 9, .any 10, .any 11, .any 12, .any 13, .any 14, .any 15, .any 16, .any 17, .any 18, .any 19, .any 20, .any 21, .any 22, .any 23, .any 24, .any 25, .any 26] [some (.cells [iV a] 3 .rw), some (.cells [iV b] 3 .rw), some (.cells [iV m2] 3 .rw), some (.cells [iV n] 3 .rw), some (Blk.rcd { t := [iV n, iV a, iV b, uV, .ptr 0 0, .ptr 1 0, iV (0 : Int), iV (0 : Int), iV (0 : Int), .ptr 2 0, uV, uV, iV n, iV (0 : Int), iV (0 : Int), V.raw (.bool false), uV, iV a, iV n, iV (n - (1 : Int)), V.raw (.bool (decide (a ≤ n - (1 : Int)))), V.raw (.bool !decide (a ≤ n - (1 : Int))), V.lit false, iV b, iV n, iV (n - (1 : Int)), V.raw (.bool (decide (b ≤ n - (1 : Int)))), V.raw (.bool !decide (b ≤ n - (1 : Int))), V.raw (.bool !decide (b ≤ n - (1 : Int))), V.lit false, iV a, iV b, V.raw (.bool (decide (a = b))), V.raw (.bool (decide (a = b))), iV n, V.fn (Fn.func (104 : Nat)) [] [.ptr 3 0], uV, uV, uV, uV, uV, uV, uV, uV, uV, uV, uV, uV, uV], f := (35 : Nat), i := (0 : Nat), st := RSt.done (Ex.exit (0 : Nat)) })]]) (cons := [(decide (i < n) = true), (inR IntKind.i64 (i + (1 : Int))), (Runs cfx 0 (5 : Nat) none (.loop (loopOf cfx.P 104 1)) [V.yld (4 : Nat), .ptr 3 0, .any 2, iV m, iV i, iV (i + (1 : Int)), iV n, iV i, V.raw (.bool (decide (i < n))), iV i, iV i, iV (i + (1 : Int)), .any 12, .any 13, .any 14, .any 15, .any 16, .any 17, .any 18, .any 19, .any 20, .any 21, .any 22, .any 23, .any 24, .any 25, .any 26] [some (.cells [iV a] 3 .rw), some (.cells [iV b] 3 .rw), some (.cells [iV (0 : Int)] 3 .rw), some (.cells [iV n] 3 .rw), some (Blk.rcd { t := [iV n, iV a, iV b, uV, .ptr 0 0, .ptr 1 0, iV (0 : Int), iV (0 : Int), iV (0 : Int), .ptr 2 0, uV, uV, iV n, iV (0 : Int), iV (0 : Int), V.raw (.bool false), uV, iV a, iV n, iV (n - (1 : Int)), V.raw (.bool (decide (a ≤ n - (1 : Int)))), V.raw (.bool !decide (a ≤ n - (1 : Int))), V.lit false, iV b, iV n, iV (n - (1 : Int)), V.raw (.bool (decide (b ≤ n - (1 : Int)))), V.raw (.bool !decide (b ≤ n - (1 : Int))), V.raw (.bool !decide (b ≤ n - (1 : Int))), V.lit false, iV a, iV b, V.raw (.bool (decide (a = b))), V.raw (.bool (decide (a = b))), iV n, V.fn (Fn.func (104 : Nat)) [] [.ptr 3 0], uV, uV, uV, uV, uV, uV, uV, uV, uV, uV, uV, uV, uV], f := (35 : Nat), i := (0 : Nat), st := RSt.ready })] (Ex.ret) [V.yld (4 : Nat), .ptr 3 0, .any 2, iV m2, iV i, iV q, iV n, iV i, .any 8, .any 9, .any 10, .any 11, .any 12, .any 13, .any 14, .any 15, .any 16, .any 17, .any 18, .any 19, .any 20, .any 21, .any 22, .any 23, .any 24, .any 25, .any 26] [some (.cells [iV a] 3 .rw), some (.cells [iV b] 3 .rw), some (.cells [iV m2] 3 .rw), some (.cells [iV n] 3 .rw), some (Blk.rcd { t := [iV n, iV a, iV b, uV, .ptr 0 0, .ptr 1 0, iV (0 : Int), iV (0 : Int), iV (0 : Int), .ptr 2 0, uV, uV, iV n, iV (0 : Int), iV (0 : Int), V.raw (.bool false), uV, iV a, iV n, iV (n - (1 : Int)), V.raw (.bool (decide (a ≤ n - (1 : Int)))), V.raw (.bool !decide (a ≤ n - (1 : Int))), V.lit false, iV b, iV n, iV (n - (1 : Int)), V.raw (.bool (decide (b ≤ n - (1 : Int)))), V.raw (.bool !decide (b ≤ n - (1 : Int))), V.raw (.bool !decide (b ≤ n - (1 : Int))), V.lit false, iV a, iV b, V.raw (.bool (decide (a = b))), V.raw (.bool (decide (a = b))), iV n, V.fn (Fn.func (104 : Nat)) [] [.ptr 3 0], uV, uV, uV, uV, uV, uV, uV, uV, uV, uV, uV, uV, uV], f := (35 : Nat), i := (0 : Nat), st := RSt.done (Ex.exit (0 : Nat)) })])]) (by kernel_rfl)
    ⟨(by first | assumption | (simp only [decide_eq_true_eq, decide_eq_false_iff_not, Bool.not_eq_true', Bool.not_eq_false']; first | assumption | omega) | (simp only [decide_eq_true_eq, decide_eq_false_iff_not, Bool.not_eq_true', Bool.not_eq_false']; done) | omega | (simp_all; done) | (simp_all; omega)), inR_i64 (by omega) (by omega), (by
      refine Runs.pre (fun b e => by cases e) (fun RT RH => ?_) (hR)
      exact reshape2 (lim := 0) 5 (t := [V.yld (4 : Nat), .ptr 3 0, .any 2, iV m, iV i, iV (i + (1 : Int)), iV n, iV i, V.raw (.bool (decide (i < n))), iV i, iV i, iV (i + (1 : Int)), .any 12, .any 13, .any 14, .any 15, .any 16, .any 17, .any 18, .any 19, .any 20, .any 21, .any 22, .any 23, .any 24, .any 25, .any 26]) (h := [some (.cells [iV a] 3 .rw), some (.cells [iV b] 3 .rw), some (.cells [iV (0 : Int)] 3 .rw), some (.cells [iV n] 3 .rw), some (Blk.rcd { t := [iV n, iV a, iV b, uV, .ptr 0 0, .ptr 1 0, iV (0 : Int), iV (0 : Int), iV (0 : Int), .ptr 2 0, uV, uV, iV n, iV (0 : Int), iV (0 : Int), V.raw (.bool false), uV, iV a, iV n, iV (n - (1 : Int)), V.raw (.bool (decide (a ≤ n - (1 : Int)))), V.raw (.bool !decide (a ≤ n - (1 : Int))), V.lit false, iV b, iV n, iV (n - (1 : Int)), V.raw (.bool (decide (b ≤ n - (1 : Int)))), V.raw (.bool !decide (b ≤ n - (1 : Int))), V.raw (.bool !decide (b ≤ n - (1 : Int))), V.lit false, iV a, iV b, V.raw (.bool (decide (a = b))), V.raw (.bool (decide (a = b))), iV n, V.fn (Fn.func (104 : Nat)) [] [.ptr 3 0], uV, uV, uV, uV, uV, uV, uV, uV, uV, uV, uV, uV, uV], f := (35 : Nat), i := (0 : Nat), st := RSt.ready })]) cfx_G rfl [] (by kernel_rfl) (by kernel_rfl) (by repeat first | exact ents_nil | refine ents_none ?_ | refine ents_map rfl rfl ?_ | refine ents_raw (ints_all _) rfl rfl ?_ | refine ents_raw (bools_all _) rfl rfl ?_ | refine ents_raw (mix_all _ _) rfl rfl ?_ | refine ents_say rfl rfl rfl rfl ?_ | refine ents_nilC rfl rfl ?_) RT RH), trivial⟩ (Nat.le_of_ble_eq_true rfl) (Nat.le_of_ble_eq_true rfl) noRnd (noRanges (by kernel_rfl))) (fun RT RH => reshape2 (lim := 0) 5 cfx_G rfl [] (by kernel_rfl) (by kernel_rfl) (by exact (ents_say rfl rfl rfl rfl (ents_say rfl rfl rfl rfl (ents_say rfl rfl rfl rfl (ents_say rfl rfl rfl rfl (ents_say rfl rfl rfl rfl (ents_nil))))))) RT RH)
end Go.Proofs.Ytcibaankajfhlaa
end
section
set_option maxRecDepth 100000
namespace Go.Proofs.Ytcibaankajfhlaa
open Go Go.RowKit Go.Proofs.Ytcibaankajfhlaa.E2
def M.gS (n : Int) : Nat → Int
  | 0 => 0
  | i + 1 => M.gS n i + (n - 1 - i)
theorem M.gS_le {n : Int} (h1 : 2 ≤ n) (h2 : n ≤ 16) : ∀ i : Nat, (i : Int) ≤ n → 0 ≤ M.gS n i ∧ M.gS n i ≤ 16 * i
  | 0, _ => ⟨Int.le_refl _, by simp [M.gS]⟩
  | i + 1, h => by
    obtain ⟨k1, k2⟩ := M.gS_le h1 h2 i (by omega)
    simp only [M.gS]
    omega
theorem gm_loop (n a b : Int) (hn1 : 2 ≤ n) (hn2 : n ≤ 16) (ha1 : 0 ≤ a) (ha2 : a < n) (hb1 : 0 ≤ b) (hb2 : b < n) (hab : ¬ a = b) (p : Nat) (q : Int) (hp : (p : Int) = (if b < a then b else a)) (hqq : q = (if b > a then b else a)) (hpq : (p : Int) < q) (hq : q < n) : Runs cfx 0 5 none (.loop (loopOf cfx.P 104 0)) (gmo_T n a b 0 0) (gmo_H n a b 0 0) (.ret) (gmb_T1 n a b (p : Int) (M.gS n p) (M.gS n p + (q - p - 1)) q) (gmb_H1 n a b (p : Int) (M.gS n p) (M.gS n p + (q - p - 1)) q) := by
  have key : Runs cfx 0 5 none (.loop (loopOf cfx.P 104 0)) (gmo_T n a b ((0 : Nat) : Int) (M.gS n 0)) (gmo_H n a b ((0 : Nat) : Int) (M.gS n 0)) (.ret) (gmb_T1 n a b (p : Int) (M.gS n p) (M.gS n p + (q - p - 1)) q) (gmb_H1 n a b (p : Int) (M.gS n p) (M.gS n p + (q - p - 1)) q) :=
    upto noRnd (fun i => gmo_T n a b (i : Int) (M.gS n i)) (fun i => gmo_H n a b (i : Int) (M.gS n i)) p (by simp) (fun i hi => by
      obtain ⟨k1, k2⟩ := M.gS_le hn1 hn2 i (by omega)
      have h := gma_1 n a b hn1 hn2 ha1 ha2 hb1 hb2 hab i (M.gS n i) (by omega) (by omega) k1 (by omega) _ (gm_miss n a b hn1 hn2 ha1 ha2 hb1 hb2 hab i (M.gS n i) (by omega) (by omega) (by rw [← hp]; omega) k1 (by omega))
      rw [show ((i + 1 : Nat) : Int) = (i : Int) + 1 by omega]
      exact h) (by
      obtain ⟨k1, k2⟩ := M.gS_le hn1 hn2 p (by omega)
      exact gmb_1 n a b hn1 hn2 ha1 ha2 hb1 hb2 hab p (M.gS n p) (by omega) (by omega) k1 (by omega) _ q (gm_hit n a b hn1 hn2 ha1 ha2 hb1 hb2 hab p q (M.gS n p) (by omega) hpq hq hp hqq k1 (by omega)))
  exact key
end Go.Proofs.Ytcibaankajfhlaa
end
section
set_option maxRecDepth 100000
namespace Go.Proofs.Ytcibaankajfhlaa
open Go Go.RowKit Go.Proofs.Ytcibaankajfhlaa.E2
theorem gm_path (n a b : Int) (hn1 : 2 ≤ n) (hn2 : n ≤ 16) (ha1 : 0 ≤ a) (ha2 : a < n) (hb1 : 0 ≤ b) (hb2 : b < n) (hab : ¬ a = b) (p : Nat) (q : Int) (hp : (p : Int) = (if b < a then b else a)) (hqq : q = (if b > a then b else a)) (hpq : (p : Int) < q) (hq : q < n)  : Ret cfx 35 [.raw (.int .i64 n), .raw (.int .i64 a), .raw (.int .i64 b)] (V.raw (.tuple { toList := [.int .i64 (M.gS n p + (q - (↑p : Int) - (1 : Int))), .int .i64 (0 : Int)] })) := by
  exact fn_of cfx_mixed cfx_call cfx_base.1 cfx_base.2.1 cfx_base.2.2 (n := 40) (ans := [Ans.go, Ans.go, Ans.go, Ans.br true, Ans.br true, Ans.br false, Ans.br false, Ans.go, Ans.br true, Ans.br true, Ans.br false, Ans.go, Ans.br true, Ans.br true, Ans.br false, Ans.br false, Ans.br false, Ans.br false, Ans.go, Ans.go, Ans.loop Ex.ret [V.yld (4 : Nat), .ptr 3 0, .any 2, iV (M.gS n p + (q - (↑p : Int) - (1 : Int))), .any 4, .any 5, iV n, iV (↑p : Int), .any 8, .any 9, .any 10, .any 11, .any 12, .any 13, .any 14, .any 15, .any 16, .any 17, .any 18, .any 19, .any 20, .any 21, .any 22, .any 23, .any 24, .any 25, .any 26] [some (.cells [iV a] 3 .rw), some (.cells [iV b] 3 .rw), some (.cells [iV (M.gS n p + (q - (↑p : Int) - (1 : Int)))] 3 .rw), some (.cells [iV n] 3 .rw), some (Blk.rcd { t := [iV n, iV a, iV b, uV, .ptr 0 0, .ptr 1 0, iV (0 : Int), iV (0 : Int), iV (0 : Int), .ptr 2 0, uV, uV, iV n, iV (0 : Int), iV (0 : Int), V.raw (.bool false), uV, iV a, iV n, iV (n - (1 : Int)), V.raw (.bool (decide (a ≤ n - (1 : Int)))), V.raw (.bool !decide (a ≤ n - (1 : Int))), V.lit false, iV b, iV n, iV (n - (1 : Int)), V.raw (.bool (decide (b ≤ n - (1 : Int)))), V.raw (.bool !decide (b ≤ n - (1 : Int))), V.raw (.bool !decide (b ≤ n - (1 : Int))), V.lit false, iV a, iV b, V.raw (.bool (decide (a = b))), V.raw (.bool (decide (a = b))), iV n, V.fn (Fn.func (104 : Nat)) [] [.ptr 3 0], uV, uV, uV, uV, uV, uV, uV, uV, uV, uV, uV, uV, uV], f := (35 : Nat), i := (0 : Nat), st := RSt.done (Ex.exit (0 : Nat)) })]]) (cons := [(decide ((2 : Int) ≤ n) = true), (true = true), ((!decide (n ≤ (16 : Int))) = false), (false = false), (inR IntKind.i64 (n - (1 : Int))), (decide ((0 : Int) ≤ a) = true), (true = true), ((!decide (a ≤ n - (1 : Int))) = false), (inR IntKind.i64 (n - (1 : Int))), (decide ((0 : Int) ≤ b) = true), (true = true), (false = false), ((!decide (b ≤ n - (1 : Int))) = false), (false = false), (decide (a = b) = false), (Runs cfx 0 (5 : Nat) none (.loop (loopOf cfx.P 104 0)) [V.yld (4 : Nat), .ptr 3 0, uV, iV (0 : Int), uV, uV, iV n, iV (0 : Int), uV, uV, uV, uV, uV, uV, uV, uV, uV, uV, uV, uV, uV, uV, uV, uV, uV, uV, uV] [some (.cells [iV a] 3 .rw), some (.cells [iV b] 3 .rw), some (.cells [iV (0 : Int)] 3 .rw), some (.cells [iV n] 3 .rw), some (Blk.rcd { t := [iV n, iV a, iV b, uV, .ptr 0 0, .ptr 1 0, iV (0 : Int), iV (0 : Int), iV (0 : Int), .ptr 2 0, uV, uV, iV n, iV (0 : Int), iV (0 : Int), V.raw (.bool false), uV, iV a, iV n, iV (n - (1 : Int)), V.raw (.bool (decide (a ≤ n - (1 : Int)))), V.raw (.bool !decide (a ≤ n - (1 : Int))), V.lit false, iV b, iV n, iV (n - (1 : Int)), V.raw (.bool (decide (b ≤ n - (1 : Int)))), V.raw (.bool !decide (b ≤ n - (1 : Int))), V.raw (.bool !decide (b ≤ n - (1 : Int))), V.lit false, iV a, iV b, V.raw (.bool (decide (a = b))), V.raw (.bool (decide (a = b))), iV n, V.fn (Fn.func (104 : Nat)) [] [.ptr 3 0], uV, uV, uV, uV, uV, uV, uV, uV, uV, uV, uV, uV, uV], f := (35 : Nat), i := (0 : Nat), st := RSt.ready })] (Ex.ret) [V.yld (4 : Nat), .ptr 3 0, .any 2, iV (M.gS n p + (q - (↑p : Int) - (1 : Int))), .any 4, .any 5, iV n, iV (↑p : Int), .any 8, .any 9, .any 10, .any 11, .any 12, .any 13, .any 14, .any 15, .any 16, .any 17, .any 18, .any 19, .any 20, .any 21, .any 22, .any 23, .any 24, .any 25, .any 26] [some (.cells [iV a] 3 .rw), some (.cells [iV b] 3 .rw), some (.cells [iV (M.gS n p + (q - (↑p : Int) - (1 : Int)))] 3 .rw), some (.cells [iV n] 3 .rw), some (Blk.rcd { t := [iV n, iV a, iV b, uV, .ptr 0 0, .ptr 1 0, iV (0 : Int), iV (0 : Int), iV (0 : Int), .ptr 2 0, uV, uV, iV n, iV (0 : Int), iV (0 : Int), V.raw (.bool false), uV, iV a, iV n, iV (n - (1 : Int)), V.raw (.bool (decide (a ≤ n - (1 : Int)))), V.raw (.bool !decide (a ≤ n - (1 : Int))), V.lit false, iV b, iV n, iV (n - (1 : Int)), V.raw (.bool (decide (b ≤ n - (1 : Int)))), V.raw (.bool !decide (b ≤ n - (1 : Int))), V.raw (.bool !decide (b ≤ n - (1 : Int))), V.lit false, iV a, iV b, V.raw (.bool (decide (a = b))), V.raw (.bool (decide (a = b))), iV n, V.fn (Fn.func (104 : Nat)) [] [.ptr 3 0], uV, uV, uV, uV, uV, uV, uV, uV, uV, uV, uV, uV, uV], f := (35 : Nat), i := (0 : Nat), st := RSt.done (Ex.exit (0 : Nat)) })])]) (by kernel_rfl) rfl rfl
    ⟨(by first | omega | (simp; omega) | (simp_all; omega)), rfl, (by first | assumption | (simp only [decide_eq_true_eq, decide_eq_false_iff_not, Bool.not_eq_true', Bool.not_eq_false']; first | assumption | omega) | (simp only [decide_eq_true_eq, decide_eq_false_iff_not, Bool.not_eq_true', Bool.not_eq_false']; done) | omega | (simp_all; done) | (simp_all; omega)), rfl, inR_i64 (by omega) (by omega), (by first | omega | (simp; omega) | (simp_all; omega)), rfl, (by first | assumption | (simp only [decide_eq_true_eq, decide_eq_false_iff_not, Bool.not_eq_true', Bool.not_eq_false']; first | assumption | omega) | (simp only [decide_eq_true_eq, decide_eq_false_iff_not, Bool.not_eq_true', Bool.not_eq_false']; done) | omega | (simp_all; done) | (simp_all; omega)), inR_i64 (by omega) (by omega), (by first | omega | (simp; omega) | (simp_all; omega)), rfl, rfl, (by first | assumption | (simp only [decide_eq_true_eq, decide_eq_false_iff_not, Bool.not_eq_true', Bool.not_eq_false']; first | assumption | omega) | (simp only [decide_eq_true_eq, decide_eq_false_iff_not, Bool.not_eq_true', Bool.not_eq_false']; done) | omega | (simp_all; done) | (simp_all; omega)), rfl, (by first | assumption | (simp only [decide_eq_true_eq, decide_eq_false_iff_not, Bool.not_eq_true', Bool.not_eq_false']; first | assumption | omega) | (simp only [decide_eq_true_eq, decide_eq_false_iff_not, Bool.not_eq_true', Bool.not_eq_false']; done) | omega | (simp_all; done) | (simp_all; omega)), (by
      refine Runs.pre (fun b e => by cases e) (fun RT RH => ?_) (gm_loop n a b hn1 hn2 ha1 ha2 hb1 hb2 hab p q hp hqq hpq hq)
      exact reshape2 (lim := 0) 5 (t := [V.yld (4 : Nat), .ptr 3 0, uV, iV (0 : Int), uV, uV, iV n, iV (0 : Int), uV, uV, uV, uV, uV, uV, uV, uV, uV, uV, uV, uV, uV, uV, uV, uV, uV, uV, uV]) (h := [some (.cells [iV a] 3 .rw), some (.cells [iV b] 3 .rw), some (.cells [iV (0 : Int)] 3 .rw), some (.cells [iV n] 3 .rw), some (Blk.rcd { t := [iV n, iV a, iV b, uV, .ptr 0 0, .ptr 1 0, iV (0 : Int), iV (0 : Int), iV (0 : Int), .ptr 2 0, uV, uV, iV n, iV (0 : Int), iV (0 : Int), V.raw (.bool false), uV, iV a, iV n, iV (n - (1 : Int)), V.raw (.bool (decide (a ≤ n - (1 : Int)))), V.raw (.bool !decide (a ≤ n - (1 : Int))), V.lit false, iV b, iV n, iV (n - (1 : Int)), V.raw (.bool (decide (b ≤ n - (1 : Int)))), V.raw (.bool !decide (b ≤ n - (1 : Int))), V.raw (.bool !decide (b ≤ n - (1 : Int))), V.lit false, iV a, iV b, V.raw (.bool (decide (a = b))), V.raw (.bool (decide (a = b))), iV n, V.fn (Fn.func (104 : Nat)) [] [.ptr 3 0], uV, uV, uV, uV, uV, uV, uV, uV, uV, uV, uV, uV, uV], f := (35 : Nat), i := (0 : Nat), st := RSt.ready })]) cfx_G rfl [] (by kernel_rfl) (by kernel_rfl) (by repeat first | exact ents_nil | refine ents_none ?_ | refine ents_map rfl rfl ?_ | refine ents_raw (ints_all _) rfl rfl ?_ | refine ents_raw (bools_all _) rfl rfl ?_ | refine ents_raw (mix_all _ _) rfl rfl ?_ | refine ents_say rfl rfl rfl rfl ?_ | refine ents_nilC rfl rfl ?_) RT RH), trivial⟩
end Go.Proofs.Ytcibaankajfhlaa
end
