/-
  For all lawns, points, radii and other balls: roquetlaw02.LawnPuts returns true, and leaves its arguments as they were. No condition.
-/
import Derived.Test.YtmelbcmfahcffaaLPe
set_option linter.unusedVariables false
set_option linter.unusedSimpArgs false
set_option maxRecDepth 100000
section
namespace Go.Proofs.Ytmelbcmfahcffaa
open Go Go.RowKit Go.Proofs.Ytmelbcmfahcffaa.E2
theorem lnPut_B_1 (nm : ByteArray) (gs cs : List Int) (n k : Nat) (T U : Nat) (w g y a b r p q : Int) (os : List Int) (m : Nat) (W : Nat) (u v s : Int) (hz : m * 3 ≤ os.length) (be : Int) (he : ¬ be = 0) (hB : Meets cfx 0 71 [lwA nm w g y n a b r p q k, .raw (.int .i64 s), .slo 2 m, .slo 3 1] (zq185 gs T cs U os W u v) (.raw (.int .i64 be)) (zq185 gs T cs U os W u v))  : Meets cfx 0 39 (zq184 nm w g y n a b r p q k u v s m) [bkG gs T, bkI cs U, bkI os W] (V.raw (.tuple { toList := [.agg { toList := [.int .i64 0, .int .i64 0] }, .int .i64 be] })) [bkG gs T, bkI cs U, bkI os W] := by
  refine Meets.post (meets_ev cfx_mixed cfx_call zz zb (n := 40) (ans := [Ans.go, Ans.reth (iV be) (zq111 gs T cs U os W nm w g y n a b r p q k u v s m), zT]) (v := V.raw (.tuple { toList := [.agg { toList := [.int .i64 0, .int .i64 0] }, .int .i64 be] })) (h' := [bkG gs T, bkI cs U, bkI os W, some (.cells (lwC nm w g y n a b r p q k) 29 .rw), some (.cells [iV u, iV v] 24 .rw), some (.cells [iV s] 2 .rw), some (.cells [.slo 2 m] 32 .rw), some (.cells [iV 0, iV 0] 24 .rw), some (.cells [iV be] 33 .rw), some (.cells [iV u, iV v] 24 (.row 2))]) (cons := [(1 ≤ 9223372036854775807), (Meets cfx 0 71 [lwA nm w g y n a b r p q k, iV s, .slo 2 m, .slo 9 1] (zq111 gs T cs U os W nm w g y n a b r p q k u v s m) (iV be) (zq111 gs T cs U os W nm w g y n a b r p q k u v s m)), ((!decide (be = 0)) = true)]) zk
    ⟨zds, (by exact below_ro (lim := 0) (N := []) rfl rfl (fun k => if k = 0 then 0 else if k = 1 then 1 else if k = 2 then 2 else 9) (fun _ => false) hB ⟨⟨_, _, rfl, mix_all _ _, .inl ⟨rfl, _, rfl⟩⟩, ⟨_, _, rfl, ints_all _, .inl ⟨rfl, _, rfl⟩⟩, ⟨_, _, rfl, ints_all _, .inl ⟨rfl, _, rfl⟩⟩, ⟨_, _, rfl, rfl, .inl ⟨rfl, _, rfl⟩⟩, trivial⟩ (fun _ _ => rfl) rfl rfl rfl (fun k X h => by simp at h) zz), zdf, trivial⟩) zk (fun RT RH => reshape2 (lim := 0) 3 cfx_G rfl [] zk zk (by exact (ents_raw (mix_all _ _) rfl rfl (ents_raw (ints_all _) rfl rfl (ents_raw (ints_all _) rfl rfl (ents_nil))))) RT RH)
theorem lnPut_B (nm : ByteArray) (gs cs : List Int) (n k : Nat) (T U : Nat) (w g y a b r p q : Int) (os : List Int) (m : Nat) (W : Nat) (u v s : Int) (hz : m * 3 ≤ os.length) (be : Int) (he : ¬ be = 0) (hB : Meets cfx 0 71 [lwA nm w g y n a b r p q k, .raw (.int .i64 s), .slo 2 m, .slo 3 1] (zq185 gs T cs U os W u v) (.raw (.int .i64 be)) (zq185 gs T cs U os W u v)) : Meets cfx 0 39 (zq184 nm w g y n a b r p q k u v s m) [bkG gs T, bkI cs U, bkI os W] (.raw (.tuple #[.agg #[.int .i64 0, .int .i64 0], .int .i64 be])) [bkG gs T, bkI cs U, bkI os W] := by
  have e : (.raw (.tuple #[.agg #[.int .i64 0, .int .i64 0], .int .i64 be]) : V) = V.raw (.tuple { toList := [.agg { toList := [.int .i64 0, .int .i64 0] }, .int .i64 be] }) := by rfl
  rw [e]
  exact lnPut_B_1 nm gs cs n k T U w g y a b r p q os m W u v s hz be he hB
theorem lnPut_H_1 (nm : ByteArray) (gs cs : List Int) (n k : Nat) (T U : Nat) (w g y a b r p q : Int) (os : List Int) (m : Nat) (W : Nat) (u v s : Int) (hz : m * 3 ≤ os.length) (hB : (zq106 nm w g y n a b r p q k s m gs T cs U os W u v)) (hwg : (0 ≤ w ∧ w ≤ 4194304) ∧ (0 ≤ g ∧ g ≤ 4194304) ∧ (0 ≤ y ∧ y ≤ 1048576)) (sx sy : Int) (hsp : (zq148 y w g u v sx sy)) (hha : Ret cfx 66 [.raw (.agg #[.int .i64 y, .int .i64 y, .int .i64 (w - y), .int .i64 (g - y)]), .raw (.agg #[.int .i64 sx, .int .i64 sy])] (.raw (.bool false)))  : Meets cfx 0 39 (zq184 nm w g y n a b r p q k u v s m) [bkG gs T, bkI cs U, bkI os W] (V.raw (.tuple { toList := [.agg { toList := [.int .i64 0, .int .i64 0] }, .int .i64 5] })) [bkG gs T, bkI cs U, bkI os W] := by
  refine Meets.post (meets_ev cfx_mixed cfx_call zz zb (n := 40) (ans := [Ans.go, Ans.reth (iV 0) (zq111 gs T cs U os W nm w g y n a b r p q k u v s m), zF, Ans.go, Ans.ret (V.raw (.agg { toList := [.int .i64 sx, .int .i64 sy] })), Ans.ret (V.raw (.bool false)), zT]) (v := V.raw (.tuple { toList := [.agg { toList := [.int .i64 0, .int .i64 0] }, .int .i64 5] })) (h' := [bkG gs T, bkI cs U, bkI os W, some (.cells (lwC nm w g y n a b r p q k) 29 .rw), some (.cells [iV u, iV v] 24 .rw), some (.cells [iV s] 2 .rw), some (.cells [.slo 2 m] 32 .rw), some (.cells [iV 0, iV 0] 24 .rw), some (.cells [iV 5] 33 .rw), some (.cells [iV u, iV v] 24 (.row 2)), some (.cells (lwC nm w g y n a b r p q k) 29 .rw), some (.cells [iV y, iV y, iV (w - y), iV (g - y)] 89 .rw), some (.cells [iV y, iV y, iV (w - y), iV (g - y)] 89 .rw), some (.cells [iV sx, iV sy] 24 .rw)]) (cons := [(1 ≤ 9223372036854775807), ((zq61 nm w g y n a b r p q k s m gs T cs U os W u v)), (false = false), (inR IntKind.i64 (w - y)), (inR IntKind.i64 (g - y)), ((zq131 y w g u v sx sy)), (Ret cfx 66 (zq214 y w g sx sy) (V.raw (.bool false))), (true = true)]) zk
    ⟨zds, (by exact below_ro (lim := 0) (N := []) rfl rfl (fun k => if k = 0 then 0 else if k = 1 then 1 else if k = 2 then 2 else 9) (fun _ => false) hB ⟨⟨_, _, rfl, mix_all _ _, .inl ⟨rfl, _, rfl⟩⟩, ⟨_, _, rfl, ints_all _, .inl ⟨rfl, _, rfl⟩⟩, ⟨_, _, rfl, ints_all _, .inl ⟨rfl, _, rfl⟩⟩, ⟨_, _, rfl, rfl, .inl ⟨rfl, _, rfl⟩⟩, trivial⟩ (fun _ _ => rfl) rfl rfl rfl (fun k X h => by simp at h) zz), rfl, inR_i64 zo zo, inR_i64 zo zo, (hsp), (hha), rfl, trivial⟩) zk (fun RT RH => reshape2 (lim := 0) 3 cfx_G rfl [] zk zk (by exact (ents_raw (mix_all _ _) rfl rfl (ents_raw (ints_all _) rfl rfl (ents_raw (ints_all _) rfl rfl (ents_nil))))) RT RH)
theorem lnPut_H (nm : ByteArray) (gs cs : List Int) (n k : Nat) (T U : Nat) (w g y a b r p q : Int) (os : List Int) (m : Nat) (W : Nat) (u v s : Int) (hz : m * 3 ≤ os.length) (hB : (zq106 nm w g y n a b r p q k s m gs T cs U os W u v)) (hwg : (0 ≤ w ∧ w ≤ 4194304) ∧ (0 ≤ g ∧ g ≤ 4194304) ∧ (0 ≤ y ∧ y ≤ 1048576)) (sx sy : Int) (hsp : (zq148 y w g u v sx sy)) (hha : Ret cfx 66 [.raw (.agg #[.int .i64 y, .int .i64 y, .int .i64 (w - y), .int .i64 (g - y)]), .raw (.agg #[.int .i64 sx, .int .i64 sy])] (.raw (.bool false))) : Meets cfx 0 39 (zq184 nm w g y n a b r p q k u v s m) [bkG gs T, bkI cs U, bkI os W] (.raw (.tuple #[.agg #[.int .i64 0, .int .i64 0], .int .i64 5])) [bkG gs T, bkI cs U, bkI os W] := by
  have e : (.raw (.tuple #[.agg #[.int .i64 0, .int .i64 0], .int .i64 5]) : V) = V.raw (.tuple { toList := [.agg { toList := [.int .i64 0, .int .i64 0] }, .int .i64 5] }) := by rfl
  rw [e]
  exact lnPut_H_1 nm gs cs n k T U w g y a b r p q os m W u v s hz hB hwg sx sy hsp hha
theorem M.sp_in {w g y u v : Int} (hw : (65536 ≤ w ∧ w ≤ 4194304) ∧ (65536 ≤ g ∧ g ≤ 4194304) ∧ (0 ≤ y ∧ y ≤ 1048576) ∧ 2 * y ≤ w - 2 ∧ 2 * y ≤ g - 2) : (y ≤ M.ySp u y (w - y) ∧ M.ySp u y (w - y) ≤ w - y) ∧ (y ≤ M.ySp v y (g - y) ∧ M.ySp v y (g - y) ≤ g - y) := by
  unfold M.ySp; omega
theorem M.sp_no {w g y u v : Int} (hw : (65536 ≤ w ∧ w ≤ 4194304) ∧ (65536 ≤ g ∧ g ≤ 4194304) ∧ (0 ≤ y ∧ y ≤ 1048576) ∧ 2 * y ≤ w - 2 ∧ 2 * y ≤ g - 2) (h : M.yHas y y (w - y) (g - y) (M.ySp u y (w - y)) (M.ySp v y (g - y)) = false) : M.ySp u y (w - y) = u ∧ M.ySp v y (g - y) = v := by
  obtain ⟨h1, h2⟩ := M.sp_in hw (u := u) (v := v)
  have hn : ¬ (M.ySp u y (w - y) = y ∨ M.ySp u y (w - y) = w - y ∨ M.ySp v y (g - y) = y ∨ M.ySp v y (g - y) = g - y) := by
    intro k
    have : M.yHas y y (w - y) (g - y) (M.ySp u y (w - y)) (M.ySp v y (g - y)) = true := by
      unfold M.yHas
      rw [show M.ySp (M.ySp u y (w - y)) y (w - y) = M.ySp u y (w - y) by unfold M.ySp; omega, show M.ySp (M.ySp v y (g - y)) y (g - y) = M.ySp v y (g - y) by unfold M.ySp; omega]
      simp only [decide_true, Bool.and_self, Bool.and_true, Bool.or_eq_true, decide_eq_true_eq]
      omega
    rw [h] at this
    cases this
  unfold M.ySp at hn ⊢
  omega
theorem M.li_bd {w g y u v : Int} (hw : (65536 ≤ w ∧ w ≤ 4194304) ∧ (65536 ≤ g ∧ g ≤ 4194304) ∧ (0 ≤ y ∧ y ≤ 1048576) ∧ 2 * y ≤ w - 2 ∧ 2 * y ≤ g - 2) : M.liV w g y u v ≤ 16777216 := by
  unfold M.liV
  split
  · unfold M.yNum M.yHalf
    (repeat' split) <;> omega
  · omega
theorem half_tdiv (h : Int) : (2 * h).tdiv 2 = h := by
  rw [Int.mul_comm]
  exact Int.mul_tdiv_cancel h (by decide)
theorem rpt_none (nm : ByteArray) (gs cs : List Int) (n k : Nat) (T U : Nat) (w g y a b r p q : Int) (hR : Meets cfx 0 45 [lwA nm w g y n a b r p q k] [bkG gs T, bkI cs U] (.raw (.int .i64 0)) [bkG gs T, bkI cs U]) (os : List Int) (m : Nat) (W : Nat) (u v s : Int) (hz : m * 3 ≤ os.length) (hmb : m ≤ 1000000) (hw : (65536 ≤ w ∧ w ≤ 4194304) ∧ (65536 ≤ g ∧ g ≤ 4194304) ∧ (0 ≤ y ∧ y ≤ 1048576) ∧ 2 * y ≤ w - 2 ∧ 2 * y ≤ g - 2) (hP2 : (-4194304 ≤ u ∧ u ≤ 4194304) ∧ (-4194304 ≤ v ∧ v ≤ 4194304)) (hP : M.ptE u v = 0) (hB0 : M.ballE s os m = 0) (sx sy hf : Int) (ib : Bool) (hsp : (zq143 nm w g y n a b r p q k u v gs T cs U sx sy ib)) (hpc : (zq173 nm w g y n a b r p q k gs T cs U hf)) (hsx : (-4194304 ≤ sx ∧ sx ≤ 4194304) ∧ (-4194304 ≤ sy ∧ sy ≤ 4194304)) (hn0 : 0 ≤ (M.liV w g y sx sy) ∧ (M.liV w g y sx sy) ≤ 16777216) (hf0 : 1 ≤ hf ∧ hf ≤ 8388608) (htd : (2 * hf).tdiv 2 = hf) (hm1 : m ≤ 1000) (hq2 : ∀ i : Nat, i < m → M.okP (at' os (i * 3)) (at' os (i * 3 + 1)) ∧ 1 ≤ at' os (i * 3 + 2) ∧ at' os (i * 3 + 2) ≤ 16384) (hs2 : 1 ≤ s ∧ s ≤ 16384) (hpl : ∀ j : Int, 0 ≤ j → j < 2 * hf → M.okP (M.yX y y (w - y) (g - y) j) (M.yY y y (w - y) (g - y) j)) (hj : ∀ j : Nat, j < (hf + 1).toNat → M.tchA os m (M.yX y y (w - y) (g - y) (((M.liV w g y sx sy) + (j : Int)).tmod (2 * hf))) (M.yY y y (w - y) (g - y) (((M.liV w g y sx sy) + (j : Int)).tmod (2 * hf))) s = true ∧ M.tchA os m (M.yX y y (w - y) (g - y) (((M.liV w g y sx sy) - (j : Int) + 2 * hf).tmod (2 * hf))) (M.yY y y (w - y) (g - y) (((M.liV w g y sx sy) - (j : Int) + 2 * hf).tmod (2 * hf))) s = true) : Runs cfx 0 9 none (.loop (loopOf cfx.P 40 0)) (rpt_T nm gs cs n k T U w g y a b r p q 0 os m W u v s sx sy hf ib 0) (rpt_H nm gs cs n k T U w g y a b r p q 0 os m W u v s sx sy hf ib 0) (.exit 0) (rpt_T4 nm gs cs n k T U w g y a b r p q 0 os m W u v s sx sy hf ib (hf + 1)) (rpt_H4 nm gs cs n k T U w g y a b r p q 0 os m W u v s sx sy hf ib (hf + 1)) := by
  have hA : ∀ i : Int, 0 ≤ i → i ≤ hf + 1 → 0 ≤ ((M.liV w g y sx sy) + i).tmod (2 * hf) ∧ ((M.liV w g y sx sy) + i).tmod (2 * hf) < 2 * hf := fun i h0 hi => tmod_in zo zo
  have hB2 : ∀ i : Int, 0 ≤ i → i ≤ hf + 1 → 0 ≤ ((M.liV w g y sx sy) - i + 2 * hf).tmod (2 * hf) ∧ ((M.liV w g y sx sy) - i + 2 * hf).tmod (2 * hf) < 2 * hf := fun i h0 hi => tmod_in zo zo
  refine upto (c := cfx) (lim := 0) (n0 := 9) (x := loopOf cfx.P 40 0) noRnd (fun i : Nat => rpt_T nm gs cs n k T U w g y a b r p q 0 os m W u v s sx sy hf ib i) (fun i : Nat => rpt_H nm gs cs n k T U w g y a b r p q 0 os m W u v s sx sy hf ib i) (hf + 1).toNat (e := .exit 0) (by simp) (fun i hi => ?_) ?_
  · exact rpt_3 nm gs cs n k T U w g y a b r p q 0 hR os m W u v s hz hmb hw hP2 rfl hP hB0 sx sy hf ib hsp hpc hsx hn0 hf0 htd hm1 hq2 hs2 hpl i zo zo (hA _ zo zo) (hB2 _ zo zo) zo (hj i hi).1 (hj i hi).2
  · rw [show (((hf + 1).toNat : Nat) : Int) = hf + 1 by omega]
    exact rpt_4 nm gs cs n k T U w g y a b r p q 0 hR os m W u v s hz hmb hw hP2 rfl hP hB0 sx sy hf ib hsp hpc hsx hn0 hf0 htd hm1 hq2 hs2 hpl (hf + 1) zo zo (hA _ zo zo) (hB2 _ zo zo) zo
theorem rpt_one (nm : ByteArray) (gs cs : List Int) (n k : Nat) (T U : Nat) (w g y a b r p q : Int) (hR : Meets cfx 0 45 [lwA nm w g y n a b r p q k] [bkG gs T, bkI cs U] (.raw (.int .i64 0)) [bkG gs T, bkI cs U]) (os : List Int) (m : Nat) (W : Nat) (u v s : Int) (hz : m * 3 ≤ os.length) (hmb : m ≤ 1000000) (hw : (65536 ≤ w ∧ w ≤ 4194304) ∧ (65536 ≤ g ∧ g ≤ 4194304) ∧ (0 ≤ y ∧ y ≤ 1048576) ∧ 2 * y ≤ w - 2 ∧ 2 * y ≤ g - 2) (hP2 : (-4194304 ≤ u ∧ u ≤ 4194304) ∧ (-4194304 ≤ v ∧ v ≤ 4194304)) (hP : M.ptE u v = 0) (hB0 : M.ballE s os m = 0) (sx sy hf : Int) (ib : Bool) (hsp : (zq143 nm w g y n a b r p q k u v gs T cs U sx sy ib)) (hpc : (zq173 nm w g y n a b r p q k gs T cs U hf)) (hsx : (-4194304 ≤ sx ∧ sx ≤ 4194304) ∧ (-4194304 ≤ sy ∧ sy ≤ 4194304)) (hn0 : 0 ≤ (M.liV w g y sx sy) ∧ (M.liV w g y sx sy) ≤ 16777216) (hf0 : 1 ≤ hf ∧ hf ≤ 8388608) (htd : (2 * hf).tdiv 2 = hf) (hm1 : m ≤ 1000) (hq2 : ∀ i : Nat, i < m → M.okP (at' os (i * 3)) (at' os (i * 3 + 1)) ∧ 1 ≤ at' os (i * 3 + 2) ∧ at' os (i * 3 + 2) ≤ 16384) (hs2 : 1 ≤ s ∧ s ≤ 16384) (hpl : ∀ j : Int, 0 ≤ j → j < 2 * hf → M.okP (M.yX y y (w - y) (g - y) j) (M.yY y y (w - y) (g - y) j)) (i : Nat) (hi : (i : Int) ≤ hf) (hj : ∀ j : Nat, j < i → M.tchA os m (M.yX y y (w - y) (g - y) (((M.liV w g y sx sy) + (j : Int)).tmod (2 * hf))) (M.yY y y (w - y) (g - y) (((M.liV w g y sx sy) + (j : Int)).tmod (2 * hf))) s = true ∧ M.tchA os m (M.yX y y (w - y) (g - y) (((M.liV w g y sx sy) - (j : Int) + 2 * hf).tmod (2 * hf))) (M.yY y y (w - y) (g - y) (((M.liV w g y sx sy) - (j : Int) + 2 * hf).tmod (2 * hf))) s = true) (h : M.tchA os m (M.yX y y (w - y) (g - y) (((M.liV w g y sx sy) + (i : Int)).tmod (2 * hf))) (M.yY y y (w - y) (g - y) (((M.liV w g y sx sy) + (i : Int)).tmod (2 * hf))) s = false) : Runs cfx 0 9 none (.loop (loopOf cfx.P 40 0)) (rpt_T nm gs cs n k T U w g y a b r p q 0 os m W u v s sx sy hf ib 0) (rpt_H nm gs cs n k T U w g y a b r p q 0 os m W u v s sx sy hf ib 0) (.ret) (rpt_T1 nm gs cs n k T U w g y a b r p q 0 os m W u v s sx sy hf ib i) (rpt_H1 nm gs cs n k T U w g y a b r p q 0 os m W u v s sx sy hf ib i) := by
  have hA : ∀ i : Int, 0 ≤ i → i ≤ hf + 1 → 0 ≤ ((M.liV w g y sx sy) + i).tmod (2 * hf) ∧ ((M.liV w g y sx sy) + i).tmod (2 * hf) < 2 * hf := fun i h0 hi => tmod_in zo zo
  have hB2 : ∀ i : Int, 0 ≤ i → i ≤ hf + 1 → 0 ≤ ((M.liV w g y sx sy) - i + 2 * hf).tmod (2 * hf) ∧ ((M.liV w g y sx sy) - i + 2 * hf).tmod (2 * hf) < 2 * hf := fun i h0 hi => tmod_in zo zo
  refine upto (c := cfx) (lim := 0) (n0 := 9) (x := loopOf cfx.P 40 0) noRnd (fun i : Nat => rpt_T nm gs cs n k T U w g y a b r p q 0 os m W u v s sx sy hf ib i) (fun i : Nat => rpt_H nm gs cs n k T U w g y a b r p q 0 os m W u v s sx sy hf ib i) i (e := .ret) (by simp) (fun j hj2 => ?_) ?_
  · exact rpt_3 nm gs cs n k T U w g y a b r p q 0 hR os m W u v s hz hmb hw hP2 rfl hP hB0 sx sy hf ib hsp hpc hsx hn0 hf0 htd hm1 hq2 hs2 hpl j zo zo (hA _ zo zo) (hB2 _ zo zo) zo (hj j hj2).1 (hj j hj2).2
  · exact rpt_1 nm gs cs n k T U w g y a b r p q 0 hR os m W u v s hz hmb hw hP2 rfl hP hB0 sx sy hf ib hsp hpc hsx hn0 hf0 htd hm1 hq2 hs2 hpl i zo zo (hA _ zo zo) (hB2 _ zo zo) zo h
theorem rpt_two (nm : ByteArray) (gs cs : List Int) (n k : Nat) (T U : Nat) (w g y a b r p q : Int) (hR : Meets cfx 0 45 [lwA nm w g y n a b r p q k] [bkG gs T, bkI cs U] (.raw (.int .i64 0)) [bkG gs T, bkI cs U]) (os : List Int) (m : Nat) (W : Nat) (u v s : Int) (hz : m * 3 ≤ os.length) (hmb : m ≤ 1000000) (hw : (65536 ≤ w ∧ w ≤ 4194304) ∧ (65536 ≤ g ∧ g ≤ 4194304) ∧ (0 ≤ y ∧ y ≤ 1048576) ∧ 2 * y ≤ w - 2 ∧ 2 * y ≤ g - 2) (hP2 : (-4194304 ≤ u ∧ u ≤ 4194304) ∧ (-4194304 ≤ v ∧ v ≤ 4194304)) (hP : M.ptE u v = 0) (hB0 : M.ballE s os m = 0) (sx sy hf : Int) (ib : Bool) (hsp : (zq143 nm w g y n a b r p q k u v gs T cs U sx sy ib)) (hpc : (zq173 nm w g y n a b r p q k gs T cs U hf)) (hsx : (-4194304 ≤ sx ∧ sx ≤ 4194304) ∧ (-4194304 ≤ sy ∧ sy ≤ 4194304)) (hn0 : 0 ≤ (M.liV w g y sx sy) ∧ (M.liV w g y sx sy) ≤ 16777216) (hf0 : 1 ≤ hf ∧ hf ≤ 8388608) (htd : (2 * hf).tdiv 2 = hf) (hm1 : m ≤ 1000) (hq2 : ∀ i : Nat, i < m → M.okP (at' os (i * 3)) (at' os (i * 3 + 1)) ∧ 1 ≤ at' os (i * 3 + 2) ∧ at' os (i * 3 + 2) ≤ 16384) (hs2 : 1 ≤ s ∧ s ≤ 16384) (hpl : ∀ j : Int, 0 ≤ j → j < 2 * hf → M.okP (M.yX y y (w - y) (g - y) j) (M.yY y y (w - y) (g - y) j)) (i : Nat) (hi : (i : Int) ≤ hf) (hj : ∀ j : Nat, j < i → M.tchA os m (M.yX y y (w - y) (g - y) (((M.liV w g y sx sy) + (j : Int)).tmod (2 * hf))) (M.yY y y (w - y) (g - y) (((M.liV w g y sx sy) + (j : Int)).tmod (2 * hf))) s = true ∧ M.tchA os m (M.yX y y (w - y) (g - y) (((M.liV w g y sx sy) - (j : Int) + 2 * hf).tmod (2 * hf))) (M.yY y y (w - y) (g - y) (((M.liV w g y sx sy) - (j : Int) + 2 * hf).tmod (2 * hf))) s = true) (h : M.tchA os m (M.yX y y (w - y) (g - y) (((M.liV w g y sx sy) + (i : Int)).tmod (2 * hf))) (M.yY y y (w - y) (g - y) (((M.liV w g y sx sy) + (i : Int)).tmod (2 * hf))) s = true) (h2 : M.tchA os m (M.yX y y (w - y) (g - y) (((M.liV w g y sx sy) - (i : Int) + 2 * hf).tmod (2 * hf))) (M.yY y y (w - y) (g - y) (((M.liV w g y sx sy) - (i : Int) + 2 * hf).tmod (2 * hf))) s = false) : Runs cfx 0 9 none (.loop (loopOf cfx.P 40 0)) (rpt_T nm gs cs n k T U w g y a b r p q 0 os m W u v s sx sy hf ib 0) (rpt_H nm gs cs n k T U w g y a b r p q 0 os m W u v s sx sy hf ib 0) (.ret) (rpt_T2 nm gs cs n k T U w g y a b r p q 0 os m W u v s sx sy hf ib i) (rpt_H2 nm gs cs n k T U w g y a b r p q 0 os m W u v s sx sy hf ib i) := by
  have hA : ∀ i : Int, 0 ≤ i → i ≤ hf + 1 → 0 ≤ ((M.liV w g y sx sy) + i).tmod (2 * hf) ∧ ((M.liV w g y sx sy) + i).tmod (2 * hf) < 2 * hf := fun i h0 hi => tmod_in zo zo
  have hB2 : ∀ i : Int, 0 ≤ i → i ≤ hf + 1 → 0 ≤ ((M.liV w g y sx sy) - i + 2 * hf).tmod (2 * hf) ∧ ((M.liV w g y sx sy) - i + 2 * hf).tmod (2 * hf) < 2 * hf := fun i h0 hi => tmod_in zo zo
  refine upto (c := cfx) (lim := 0) (n0 := 9) (x := loopOf cfx.P 40 0) noRnd (fun i : Nat => rpt_T nm gs cs n k T U w g y a b r p q 0 os m W u v s sx sy hf ib i) (fun i : Nat => rpt_H nm gs cs n k T U w g y a b r p q 0 os m W u v s sx sy hf ib i) i (e := .ret) (by simp) (fun j hj2 => ?_) ?_
  · exact rpt_3 nm gs cs n k T U w g y a b r p q 0 hR os m W u v s hz hmb hw hP2 rfl hP hB0 sx sy hf ib hsp hpc hsx hn0 hf0 htd hm1 hq2 hs2 hpl j zo zo (hA _ zo zo) (hB2 _ zo zo) zo (hj j hj2).1 (hj j hj2).2
  · exact rpt_2 nm gs cs n k T U w g y a b r p q 0 hR os m W u v s hz hmb hw hP2 rfl hP hB0 sx sy hf ib hsp hpc hsx hn0 hf0 htd hm1 hq2 hs2 hpl i zo zo (hA _ zo zo) (hB2 _ zo zo) zo h h2
end Go.Proofs.Ytmelbcmfahcffaa
end
section
namespace Go.Proofs.Ytmelbcmfahcffaa
open Go Go.RowKit Go.Proofs.Ytmelbcmfahcffaa.E2
theorem putBoth (nm : ByteArray) (gs cs : List Int) (n k : Nat) (T U : Nat) (w g y a b r p q : Int) (os : List Int) (m : Nat) (W : Nat) (u v s : Int) (hzg : n * 5 ≤ gs.length) (hzc : k * 3 ≤ cs.length) (hn : n ≤ 20) (hk : k ≤ 300) (hnm : nm.size ≤ 100) (hz : m * 3 ≤ os.length) (hmb : m ≤ 1000000) : ∃ x z e : Int, Meets cfx 0 39 (zq184 nm w g y n a b r p q k u v s m) [bkG gs T, bkI cs U, bkI os W] (.raw (.tuple #[.agg #[.int .i64 x, .int .i64 z], .int .i64 e])) [bkG gs T, bkI cs U, bkI os W] ∧ Meets cfx 0 40 (zq184 nm w g y n a b r p q k u v s m) [bkG gs T, bkI cs U, bkI os W] (.raw (.tuple #[.agg #[.int .i64 x, .int .i64 z], .int .i64 e])) [bkG gs T, bkI cs U, bkI os W] := by
  have hC := lnCheck nm gs cs n k T U w g y a b r p q hzg hzc hn hk hnm
  have hR := rnCheck nm gs cs n k T U w g y a b r p q hzg hzc hn hk hnm
  have hB := lnBall1 nm gs cs n k T U w g y a b r p q _ hC os m W u v s hz hmb
  by_cases hE : M.lawnE nm gs cs n k w g y a b r p q = 0
  case neg =>
    have e : M.ball1E (M.lawnE nm gs cs n k w g y a b r p q) u v s os m = M.lawnE nm gs cs n k w g y a b r p q := by unfold M.ball1E; rw [if_pos hE]
    rw [e] at hB
    exact ⟨0, 0, _, lnPut_B nm gs cs n k T U w g y a b r p q os m W u v s hz _ hE hB, rput_E nm gs cs n k T U w g y a b r p q _ hR os m W u v s hz hmb hE⟩
  rw [hE] at hC hR hB
  have hw := M.lawn_sides hE
  by_cases hP : M.ptE u v = 0
  case neg =>
    have e : M.ball1E 0 u v s os m = 2 := by unfold M.ball1E; rw [if_neg (by simp), if_pos hP]; exact (M.pt_or u v).resolve_left hP
    rw [e] at hB
    exact ⟨0, 0, 2, lnPut_B nm gs cs n k T U w g y a b r p q os m W u v s hz _ zo hB, rput_P nm gs cs n k T U w g y a b r p q 0 hR os m W u v s hz hmb rfl hP⟩
  have hP2 := M.pt_iff.1 hP
  rw [M.ball1_eq hP] at hB
  by_cases hB0 : M.ballE s os m = 0
  case neg => exact ⟨0, 0, _, lnPut_B nm gs cs n k T U w g y a b r p q os m W u v s hz _ hB0 hB, rput_B nm gs cs n k T U w g y a b r p q 0 hR os m W u v s hz hmb rfl hP hB0⟩
  rw [hB0] at hB
  have hwg : (0 ≤ w ∧ w ≤ 4194304) ∧ (0 ≤ g ∧ g ≤ 4194304) ∧ (0 ≤ y ∧ y ≤ 1048576) := ⟨⟨by omega, hw.1.2⟩, ⟨by omega, hw.2.1.2⟩, hw.2.2.1⟩
  have hsp1 := lnSpot y y (w - y) (g - y) u v
  have hsp2 := rnSpt nm gs cs n k T U w g y a b r p q u v hw hP2
  have hpc := rnPlc nm gs cs n k T U w g y a b r p q hw
  have hha := lnHas y y (w - y) (g - y) (M.ySp u y (w - y)) (M.ySp v y (g - y))
  have hin := M.sp_in hw (u := u) (v := v)
  have hno := @M.sp_no w g y u v hw
  have hli := @M.li_has w g y (M.ySp u y (w - y)) (M.ySp v y (g - y)) hw
  have hlp := @M.li_has w g y u v hw
  have hbd := @M.li_bd w g y (M.ySp u y (w - y)) (M.ySp v y (g - y)) hw
  have hib : ∀ b : Bool, (!(decide (M.ySp u y (w - y) = u) && decide (M.ySp v y (g - y) = v))) = b → b = false → M.ySp u y (w - y) = u ∧ M.ySp v y (g - y) = v := by
    intro b h1 h2
    rw [h2] at h1
    simpa using h1
  have hno2 : M.ySp u y (w - y) = u ∧ M.ySp v y (g - y) = v → (!(decide (M.ySp u y (w - y) = u) && decide (M.ySp v y (g - y) = v))) = false := by
    rintro ⟨h1, h2⟩
    rw [decide_eq_true h1, decide_eq_true h2]; rfl
  generalize M.ySp u y (w - y) = sx at hsp1 hsp2 hha hin hno hli hbd hib hno2
  generalize M.ySp v y (g - y) = sy at hsp1 hsp2 hha hin hno hli hbd hib hno2
  have hsx : (-4194304 ≤ sx ∧ sx ≤ 4194304) ∧ (-4194304 ≤ sy ∧ sy ≤ 4194304) := by omega
  cases hh : M.yHas y y (w - y) (g - y) sx sy with
  | false =>
    rw [hh] at hha
    obtain ⟨e1, e2⟩ := hno hh
    rw [hno2 ⟨e1, e2⟩] at hsp2
    have hln := hli.1 hh
    rw [e1, e2] at hln
    exact ⟨0, 0, 5, lnPut_H nm gs cs n k T U w g y a b r p q os m W u v s hz hB hwg sx sy hsp1 hha, rput_H nm gs cs n k T U w g y a b r p q 0 hR os m W u v s hz hmb hw hP2 rfl hP hB0 sx sy (M.yHalf y y (w - y) (g - y)) false hsp2 hpc hsx rfl hln⟩
  | true =>
  rw [hh] at hha
  obtain ⟨hn1, hnn⟩ := hli.2 hh
  have hyb : (-10000000 ≤ y ∧ y ≤ 10000000) ∧ (-10000000 ≤ y ∧ y ≤ 10000000) ∧ (-10000000 ≤ w - y ∧ w - y ≤ 10000000) ∧ (-10000000 ≤ g - y ∧ g - y ≤ 10000000) := by omega
  have hnu := lnNum y y (w - y) (g - y) sx sy hyb zo
  rw [← hnn] at hnu
  have hhf := lnHalf y y (w - y) (g - y) hyb
  have hn2 : 0 ≤ M.liV w g y sx sy ∧ M.liV w g y sx sy ≤ 16777216 := ⟨hn1, hbd⟩
  have hf0 : 1 ≤ M.yHalf y y (w - y) (g - y) ∧ M.yHalf y y (w - y) (g - y) ≤ 8388608 := by unfold M.yHalf; omega
  have htd := half_tdiv (M.yHalf y y (w - y) (g - y))
  have hpl2 : ∀ j : Int, 0 ≤ j → j < 2 * M.yHalf y y (w - y) (g - y) → (0 ≤ M.yX y y (w - y) (g - y) j ∧ M.yX y y (w - y) (g - y) j ≤ 4194304) ∧ (0 ≤ M.yY y y (w - y) (g - y) j ∧ M.yY y y (w - y) (g - y) j ≤ 4194304) := fun j h0 h1 => M.y_in zo zo ⟨h0, h1⟩
  obtain ⟨hs0, ho0⟩ := M.ball_ok hB0
  obtain ⟨hm12, hos⟩ := M.oth_ok ho0
  have hs2 := M.rad_iff.1 hs0
  have hpl : ∀ j : Int, 0 ≤ j → j < 2 * M.yHalf y y (w - y) (g - y) → M.okP (M.yX y y (w - y) (g - y) j) (M.yY y y (w - y) (g - y) j) := fun j h0 h1 => by
    have := hpl2 j h0 h1
    unfold M.okP
    omega
  have hpl1 : ∀ j : Int, 0 ≤ j → j < 2 * M.yHalf y y (w - y) (g - y) → chkDisc (M.yX y y (w - y) (g - y) j) (M.yY y y (w - y) (g - y) j) s = 0 := fun j h0 h1 => by
    have := hpl2 j h0 h1
    exact chkDisc_fit zo zo zo
  have hq1 : ∀ i : Nat, i < m → chkDisc (at' os (i * 3)) (at' os (i * 3 + 1)) (at' os (i * 3 + 2)) = 0 := fun i hi => by
    obtain ⟨⟨a1, a2⟩, a3⟩ := hos i hi
    exact chkDisc_fit zo a1 a2
  have hq2 : ∀ i : Nat, i < m → M.okP (at' os (i * 3)) (at' os (i * 3 + 1)) ∧ 1 ≤ at' os (i * 3 + 2) ∧ at' os (i * 3 + 2) ≤ 16384 := fun i hi => by
    obtain ⟨⟨a1, a2⟩, a3⟩ := hos i hi
    refine ⟨?_, a3⟩
    unfold M.okP
    omega
  have hm1 : m ≤ 1000 := by omega
  have hlq : ∀ b : Bool, (!(decide (sx = u) && decide (sy = v))) = b → b = false → 0 ≤ M.liV w g y u v := fun b h1 h2 => by
    obtain ⟨e1, e2⟩ := hib b h1 h2
    rw [← e1, ← e2]
    exact hn1
  clear hli hlp hno hno2 hib hbd
  generalize hbb : (!(decide (sx = u) && decide (sy = v))) = ib at hsp2 hlq
  have hln := hlq ib rfl
  clear hlq hbb
  rcases ptl_loop nm gs cs n k T U w g y a b r p q os m W u v s hz hB hm1 sx sy (M.liV w g y sx sy) (M.yHalf y y (w - y) (g - y)) hsp1 hha hnu hhf hwg hn2 hf0 hq1 hpl1 with ⟨hall, R⟩ | ⟨i, hi, hlt, ⟨hA, R⟩ | ⟨hA, hBf, R⟩⟩
  · have hj : ∀ j : Nat, j < (M.yHalf y y (w - y) (g - y) + 1).toNat → _ := fun j hj => Bool.and_eq_true_iff.1 (List.all_eq_true.1 hall j (List.mem_range.2 hj))
    have R2 := rpt_none nm gs cs n k T U w g y a b r p q hR os m W u v s hz hmb hw hP2 hP hB0 sx sy (M.yHalf y y (w - y) (g - y)) ib hsp2 hpc hsx hn2 hf0 htd hm1 hq2 hs2 hpl hj
    cases ib
    · exact ⟨_, _, _, put_no nm gs cs n k T U w g y a b r p q os m W u v s hz hB hm1 sx sy (M.liV w g y sx sy) (M.yHalf y y (w - y) (g - y)) hsp1 hha hnu hhf hwg hn2 hf0 hq1 hpl1 R, rput_no_f nm gs cs n k T U w g y a b r p q 0 hR os m W u v s hz hmb hw hP2 rfl hP hB0 sx sy (M.yHalf y y (w - y) (g - y)) false hsp2 hpc hsx hn2 hf0 htd rfl (hln rfl) R2⟩
    · exact ⟨_, _, _, put_no nm gs cs n k T U w g y a b r p q os m W u v s hz hB hm1 sx sy (M.liV w g y sx sy) (M.yHalf y y (w - y) (g - y)) hsp1 hha hnu hhf hwg hn2 hf0 hq1 hpl1 R, rput_no_t nm gs cs n k T U w g y a b r p q 0 hR os m W u v s hz hmb hw hP2 rfl hP hB0 sx sy (M.yHalf y y (w - y) (g - y)) true hsp2 hpc hsx hn2 hf0 htd rfl R2⟩
  · have R2 := rpt_one nm gs cs n k T U w g y a b r p q hR os m W u v s hz hmb hw hP2 hP hB0 sx sy (M.yHalf y y (w - y) (g - y)) ib hsp2 hpc hsx hn2 hf0 htd hm1 hq2 hs2 hpl i hi (fun j hj => Bool.and_eq_true_iff.1 (hlt j hj)) hA
    cases ib
    · exact ⟨_, _, _, put_one nm gs cs n k T U w g y a b r p q os m W u v s hz hB hm1 sx sy (M.liV w g y sx sy) (M.yHalf y y (w - y) (g - y)) hsp1 hha hnu hhf hwg hn2 hf0 hq1 hpl1 i R, rput_one_f nm gs cs n k T U w g y a b r p q 0 hR os m W u v s hz hmb hw hP2 rfl hP hB0 sx sy (M.yHalf y y (w - y) (g - y)) false hsp2 hpc hsx hn2 hf0 htd rfl (hln rfl) i R2⟩
    · exact ⟨_, _, _, put_one nm gs cs n k T U w g y a b r p q os m W u v s hz hB hm1 sx sy (M.liV w g y sx sy) (M.yHalf y y (w - y) (g - y)) hsp1 hha hnu hhf hwg hn2 hf0 hq1 hpl1 i R, rput_one_t nm gs cs n k T U w g y a b r p q 0 hR os m W u v s hz hmb hw hP2 rfl hP hB0 sx sy (M.yHalf y y (w - y) (g - y)) true hsp2 hpc hsx hn2 hf0 htd rfl i R2⟩
  · have R2 := rpt_two nm gs cs n k T U w g y a b r p q hR os m W u v s hz hmb hw hP2 hP hB0 sx sy (M.yHalf y y (w - y) (g - y)) ib hsp2 hpc hsx hn2 hf0 htd hm1 hq2 hs2 hpl i hi (fun j hj => Bool.and_eq_true_iff.1 (hlt j hj)) hA hBf
    cases ib
    · exact ⟨_, _, _, put_two nm gs cs n k T U w g y a b r p q os m W u v s hz hB hm1 sx sy (M.liV w g y sx sy) (M.yHalf y y (w - y) (g - y)) hsp1 hha hnu hhf hwg hn2 hf0 hq1 hpl1 i R, rput_two_f nm gs cs n k T U w g y a b r p q 0 hR os m W u v s hz hmb hw hP2 rfl hP hB0 sx sy (M.yHalf y y (w - y) (g - y)) false hsp2 hpc hsx hn2 hf0 htd rfl (hln rfl) i R2⟩
    · exact ⟨_, _, _, put_two nm gs cs n k T U w g y a b r p q os m W u v s hz hB hm1 sx sy (M.liV w g y sx sy) (M.yHalf y y (w - y) (g - y)) hsp1 hha hnu hhf hwg hn2 hf0 hq1 hpl1 i R, rput_two_t nm gs cs n k T U w g y a b r p q 0 hR os m W u v s hz hmb hw hP2 rfl hP hB0 sx sy (M.yHalf y y (w - y) (g - y)) true hsp2 hpc hsx hn2 hf0 htd rfl i R2⟩
end Go.Proofs.Ytmelbcmfahcffaa
end
section
namespace Go.Proofs.Ytmelbcmfahcffaa
open Go Go.RowKit Go.Proofs.Ytmelbcmfahcffaa.E2
theorem new_one (z : Int) (T : TypeId) (ow : Own) (h1 : (Blk.cells [.raw (.int .i64 z)] T ow).wr = true := by rfl) : ∀ (k : Nat) (X : Blk), ([some (Blk.cells [.raw (.int .i64 z)] T ow)] : Heap)[k]? = some (some X) → X.wr = true ∧ ∃ cs ty own, X = .cells cs ty own ∧ cs.all isRawV = true := fun k X h => by
  match k with
  | 0 =>
    simp only [List.getElem?_cons_zero, Option.some.injEq] at h
    subst h
    exact ⟨h1, _, _, _, rfl, rfl⟩
  | k + 1 => simp at h
abbrev zq212 : List V := [V.raw (Value.string { data := #[(103 : UInt8), (114 : UInt8), (101 : UInt8), (101 : UInt8), (110 : UInt8)] }), iV 100000, iV 200000, iV 5000, .slo 1 2, iV 50000, iV 100000, iV 1200, iV 2, iV 1, .slo 2 2]
abbrev zq215 : List V := [iV 50000, iV 40000, iV 6000, iV 500, V.raw (.bool false), iV 30000, iV 100000, iV 6000, iV 500, V.raw (.bool true)]
abbrev zq42 : Heap := [some (.cells (zq212) 29 .rw), some (.cells (zq215) 71 (.row 5)), some (.cells [iV 100, iV 0, iV 0, iV 200, iV 5, iV (-5)] 39 (.row 3)), some (.cells (zq212) 29 .rw), some (.cells [iV 0] 3 (.row 1)), some (.cells [iV 5000, iV 70000, iV 2946] 26 (.row 3))]
abbrev zq45 : Heap := [some (.cells (zq212) 29 .rw), some (.cells (zq215) 71 (.row 5)), some (.cells [iV 100, iV 0, iV 0, iV 200, iV 5, iV (-5)] 39 (.row 3)), some (.cells (zq212) 29 .rw), some (.cells [iV 0] 3 (.row 1))]
abbrev zq138 : List V := (zq212)
abbrev zq171 : List V := (zq215)
theorem lnWorks   : Meets cfx 0 13 [] [] (V.raw (.bool true)) [] := by
  refine Meets.post (meets_ev cfx_mixed cfx_call zz zb (n := 40) (ans := [Ans.go, Ans.go, Ans.reth (V.tup [.slo 4 1, iV 0]) (zq45), Ans.reth (V.raw (.tuple { toList := [.int .i64 3, .int .i64 0] })) (zq45), Ans.reth (V.raw (.tuple { toList := [.agg { toList := [.int .i64 5000, .int .i64 64108] }, .int .i64 0] })) (zq42), zT, zT, zT, zT, zT, zT, zT, zT]) (v := V.raw (.bool true)) (h' := [some (.cells (zq138) 29 .rw), some (.cells (zq171) 71 (.row 5)), some (.cells [iV 100, iV 0, iV 0, iV 200, iV 5, iV (-5)] 39 (.row 3)), some (.cells (zq138) 29 .rw), some (.cells [iV 0] 3 (.row 1)), some (.cells [iV 5000, iV 70000, iV 2946] 26 (.row 3)), some (.cells [iV 5000, iV 64108] 24 .rw)]) (cons := [(2 ≤ 9223372036854775807), (2 ≤ 9223372036854775807), (Meets cfx 0 28 [V.agg (zq138), V.raw (.agg { toList := [.int .i64 49900, .int .i64 30000] }), V.raw (.agg { toList := [.int .i64 49900, .int .i64 50000] }), iV 2946, V.raw (Value.slice none 0 0)] [some (.cells (zq138) 29 .rw), some (.cells (zq171) 71 (.row 5)), some (.cells [iV 100, iV 0, iV 0, iV 200, iV 5, iV (-5)] 39 (.row 3)), some (.cells (zq138) 29 .rw)] (V.tup [.slo 4 1, iV 0]) (zq45)), (Meets cfx 0 37 [V.agg (zq138), iV 0, V.raw (.bool true), V.raw (.agg { toList := [.int .i64 50000, .int .i64 42446] }), iV 2946] (zq45) (V.raw (.tuple { toList := [.int .i64 3, .int .i64 0] })) (zq45)), (1 ≤ 9223372036854775807), (Meets cfx 0 39 [V.agg (zq138), V.raw (.agg { toList := [.int .i64 1000, .int .i64 70000] }), iV 2946, .slo 5 1] (zq42) (V.raw (.tuple { toList := [.agg { toList := [.int .i64 5000, .int .i64 64108] }, .int .i64 0] })) (zq42)), (inR IntKind.i64 0), (inR IntKind.i64 0), (true = true), (true = true), (true = true), ((0 : Int) ≤ (0 : Int) ∧ (0 : Int) < (1 : Int)), (true = true), (true = true), (true = true), (true = true), (true = true)]) zk
    ⟨zds, zds, (by exact below_ro (lim := 0) (N := [some (.cells [.raw (.int .i64 0)] 3 (.row 1))]) rfl rfl (fun k => if k = 0 then 1 else if k = 1 then 2 else 0) (fun k => k == 2) (ex_InWay _ (Nat.le_of_ble_eq_true zk) zk) ⟨⟨_, _, rfl, rfl, .inl ⟨rfl, _, rfl⟩⟩, ⟨_, _, rfl, rfl, .inl ⟨rfl, _, rfl⟩⟩, ⟨_, _, rfl, rfl, .inr ⟨rfl, rfl⟩⟩, trivial⟩ (fun k hk => by have hk2 : 3 ≤ k := hk; simp; omega) rfl rfl rfl (new_one _ _ _) zz), (by exact below_ro (lim := 0) (N := []) rfl rfl (fun k => if k = 0 then 1 else 2) (fun _ => false) (ex_Stand _ (Nat.le_of_ble_eq_true zk) zk) ⟨⟨_, _, rfl, rfl, .inl ⟨rfl, _, rfl⟩⟩, ⟨_, _, rfl, rfl, .inl ⟨rfl, _, rfl⟩⟩, trivial⟩ (fun _ _ => rfl) rfl rfl rfl (fun k X h => by simp at h) zz), zds, (by exact below_ro (lim := 0) (N := []) rfl rfl (fun k => if k = 0 then 1 else if k = 1 then 2 else 5) (fun _ => false) (ex_Put _ (Nat.le_of_ble_eq_true zk) zk) ⟨⟨_, _, rfl, rfl, .inl ⟨rfl, _, rfl⟩⟩, ⟨_, _, rfl, rfl, .inl ⟨rfl, _, rfl⟩⟩, ⟨_, _, rfl, rfl, .inl ⟨rfl, _, rfl⟩⟩, trivial⟩ (fun _ _ => rfl) rfl rfl rfl (fun k X h => by simp at h) zz), inR_i64 zo zo, inR_i64 zo zo, rfl, rfl, rfl, zo, rfl, rfl, rfl, rfl, rfl, trivial⟩) zk (fun RT RH => reshape2 (lim := 0) 0 cfx_G rfl [] zk zk (by exact (ents_nil)) RT RH)
end Go.Proofs.Ytmelbcmfahcffaa
end
section
namespace Go.Proofs.Ytmelbcmfahcffaa
open Go Go.RowKit Go.Proofs.Ytmelbcmfahcffaa.E2
abbrev zq87 (gs : List Int) (T : Nat) (cs : List Int) (U : Nat) (os : List Int) (W : Nat) (nm : ByteArray) (w : Int) (g : Int) (y : Int) (n : Nat) (a : Int) (b : Int) (r : Int) (p : Int) (q : Int) (k : Nat) (u : Int) (v : Int) : Prop := Meets cfx 0 13 [] [bkG gs T, bkI cs U, bkI os W, some (.cells (lwC nm w g y n a b r p q k) 29 .rw), some (.cells [iV u, iV v] 24 .rw), some (.cells (lwC nm w g y n a b r p q k) 29 .rw)] (V.raw (.bool true)) [bkG gs T, bkI cs U, bkI os W, some (.cells (lwC nm w g y n a b r p q k) 29 .rw), some (.cells [iV u, iV v] 24 .rw), some (.cells (lwC nm w g y n a b r p q k) 29 .rw)]
abbrev zq152 (gs : List Int) (T : Nat) (cs : List Int) (U : Nat) (os : List Int) (W : Nat) (nm : ByteArray) (w : Int) (g : Int) (y : Int) (n : Nat) (a : Int) (b : Int) (r : Int) (p : Int) (q : Int) (k : Nat) (u : Int) (v : Int) : Heap := [bkG gs T, bkI cs U, bkI os W, some (.cells (lwC nm w g y n a b r p q k) 29 .rw), some (.cells [iV u, iV v] 24 .rw), some (.cells (lwC nm w g y n a b r p q k) 29 .rw)]
theorem lpu_great1 (nm : ByteArray) (gs cs : List Int) (n k : Nat) (T U : Nat) (w g y a b r p q : Int) (os : List Int) (m : Nat) (W : Nat) (u v s : Int) (h1 : 100 < nm.size) (h9 : nm.size ≤ 9223372036854775807)  : Meets cfx 0 6 (zq184 nm w g y n a b r p q k u v s m) [bkG gs T, bkI cs U, bkI os W] (V.raw (.bool true)) [bkG gs T, bkI cs U, bkI os W] := by
  refine Meets.post (meets_ev cfx_mixed cfx_call zz zb (n := 40) (ans := [Ans.go, Ans.go, zT, zT, zT, zT, zT, zT, zT, Ans.reth (V.raw (.bool true)) (zq152 gs T cs U os W nm w g y n a b r p q k u v)]) (v := V.raw (.bool true)) (h' := (zq152 gs T cs U os W nm w g y n a b r p q k u v)) (cons := [(decide (100 < (↑nm.size : Int)) = true), (true = true), (true = true), (true = true), (true = true), (true = true), (true = true), ((zq87 gs T cs U os W nm w g y n a b r p q k u v))]) zk
    ⟨zdo, rfl, rfl, rfl, rfl, rfl, rfl, (by exact below_ro (lim := 0) (N := []) rfl rfl (fun k => k) (fun _ => false) lnWorks trivial (fun _ _ => rfl) rfl rfl rfl (fun k X h => by simp at h) zz), trivial⟩) zk (fun RT RH => reshape2 (lim := 0) 3 cfx_G rfl [] zk zk (by exact (ents_raw (mix_all _ _) rfl rfl (ents_raw (ints_all _) rfl rfl (ents_raw (ints_all _) rfl rfl (ents_nil))))) RT RH)
theorem lpu_great2 (nm : ByteArray) (gs cs : List Int) (n k : Nat) (T U : Nat) (w g y a b r p q : Int) (os : List Int) (m : Nat) (W : Nat) (u v s : Int) (h1 : nm.size ≤ 100) (h2 : 20 < n)  : Meets cfx 0 6 (zq184 nm w g y n a b r p q k u v s m) [bkG gs T, bkI cs U, bkI os W] (V.raw (.bool true)) [bkG gs T, bkI cs U, bkI os W] := by
  refine Meets.post (meets_ev cfx_mixed cfx_call zz zb (n := 40) (ans := [Ans.go, Ans.go, zF, zF, zT, zT, zT, zT, zT, Ans.reth (V.raw (.bool true)) (zq152 gs T cs U os W nm w g y n a b r p q k u v)]) (v := V.raw (.bool true)) (h' := (zq152 gs T cs U os W nm w g y n a b r p q k u v)) (cons := [(decide (100 < (↑nm.size : Int)) = false), (false = false), (decide (20 < (↑n : Int)) = true), (true = true), (true = true), (true = true), (true = true), ((zq87 gs T cs U os W nm w g y n a b r p q k u v))]) zk
    ⟨zdo, rfl, zdo, rfl, rfl, rfl, rfl, (by exact below_ro (lim := 0) (N := []) rfl rfl (fun k => k) (fun _ => false) lnWorks trivial (fun _ _ => rfl) rfl rfl rfl (fun k X h => by simp at h) zz), trivial⟩) zk (fun RT RH => reshape2 (lim := 0) 3 cfx_G rfl [] zk zk (by exact (ents_raw (mix_all _ _) rfl rfl (ents_raw (ints_all _) rfl rfl (ents_raw (ints_all _) rfl rfl (ents_nil))))) RT RH)
theorem lpu_great3 (nm : ByteArray) (gs cs : List Int) (n k : Nat) (T U : Nat) (w g y a b r p q : Int) (os : List Int) (m : Nat) (W : Nat) (u v s : Int) (h1 : nm.size ≤ 100) (h2 : n ≤ 20) (h3 : 300 < k)  : Meets cfx 0 6 (zq184 nm w g y n a b r p q k u v s m) [bkG gs T, bkI cs U, bkI os W] (V.raw (.bool true)) [bkG gs T, bkI cs U, bkI os W] := by
  refine Meets.post (meets_ev cfx_mixed cfx_call zz zb (n := 40) (ans := [Ans.go, Ans.go, zF, zF, zF, zF, zT, zT, zT, Ans.reth (V.raw (.bool true)) (zq152 gs T cs U os W nm w g y n a b r p q k u v)]) (v := V.raw (.bool true)) (h' := (zq152 gs T cs U os W nm w g y n a b r p q k u v)) (cons := [(decide (100 < (↑nm.size : Int)) = false), (false = false), (decide (20 < (↑n : Int)) = false), (false = false), (decide (300 < (↑k : Int)) = true), (true = true), (true = true), ((zq87 gs T cs U os W nm w g y n a b r p q k u v))]) zk
    ⟨zdo, rfl, zdo, rfl, zdo, rfl, rfl, (by exact below_ro (lim := 0) (N := []) rfl rfl (fun k => k) (fun _ => false) lnWorks trivial (fun _ _ => rfl) rfl rfl rfl (fun k X h => by simp at h) zz), trivial⟩) zk (fun RT RH => reshape2 (lim := 0) 3 cfx_G rfl [] zk zk (by exact (ents_raw (mix_all _ _) rfl rfl (ents_raw (ints_all _) rfl rfl (ents_raw (ints_all _) rfl rfl (ents_nil))))) RT RH)
theorem lpu_great4 (nm : ByteArray) (gs cs : List Int) (n k : Nat) (T U : Nat) (w g y a b r p q : Int) (os : List Int) (m : Nat) (W : Nat) (u v s : Int) (h1 : nm.size ≤ 100) (h2 : n ≤ 20) (h3 : k ≤ 300) (h4 : 20 < m)  : Meets cfx 0 6 (zq184 nm w g y n a b r p q k u v s m) [bkG gs T, bkI cs U, bkI os W] (V.raw (.bool true)) [bkG gs T, bkI cs U, bkI os W] := by
  refine Meets.post (meets_ev cfx_mixed cfx_call zz zb (n := 40) (ans := [Ans.go, Ans.go, zF, zF, zF, zF, zF, zF, zT, Ans.reth (V.raw (.bool true)) (zq152 gs T cs U os W nm w g y n a b r p q k u v)]) (v := V.raw (.bool true)) (h' := (zq152 gs T cs U os W nm w g y n a b r p q k u v)) (cons := [(decide (100 < (↑nm.size : Int)) = false), (false = false), (decide (20 < (↑n : Int)) = false), (false = false), (decide (300 < (↑k : Int)) = false), (false = false), (decide (20 < (↑m : Int)) = true), ((zq87 gs T cs U os W nm w g y n a b r p q k u v))]) zk
    ⟨zdo, rfl, zdo, rfl, zdo, rfl, zdo, (by exact below_ro (lim := 0) (N := []) rfl rfl (fun k => k) (fun _ => false) lnWorks trivial (fun _ _ => rfl) rfl rfl rfl (fun k X h => by simp at h) zz), trivial⟩) zk (fun RT RH => reshape2 (lim := 0) 3 cfx_G rfl [] zk zk (by exact (ents_raw (mix_all _ _) rfl rfl (ents_raw (ints_all _) rfl rfl (ents_raw (ints_all _) rfl rfl (ents_nil))))) RT RH)
abbrev zq121 (gs : List Int) (T : Nat) (cs : List Int) (U : Nat) (os : List Int) (W : Nat) (nm : ByteArray) (w : Int) (g : Int) (y : Int) (n : Nat) (a : Int) (b : Int) (r : Int) (p : Int) (q : Int) (k : Nat) (u : Int) (v : Int) (x : Int) (z : Int) : Heap := [bkG gs T, bkI cs U, bkI os W, some (.cells (lwC nm w g y n a b r p q k) 29 .rw), some (.cells [iV u, iV v] 24 .rw), some (.cells (lwC nm w g y n a b r p q k) 29 .rw), some (.cells [iV x, iV z] 24 .rw), some (.cells [iV x, iV z] 24 .rw)]
theorem lpu_ok (nm : ByteArray) (gs cs : List Int) (n k : Nat) (T U : Nat) (w g y a b r p q : Int) (os : List Int) (m : Nat) (W : Nat) (u v s : Int) (h1 : nm.size ≤ 100) (h2 : n ≤ 20) (h3 : k ≤ 300) (h4 : m ≤ 20) (x z e : Int) (hp1 : Meets cfx 0 39 (zq184 nm w g y n a b r p q k u v s m) [bkG gs T, bkI cs U, bkI os W] (.raw (.tuple #[.agg #[.int .i64 x, .int .i64 z], .int .i64 e])) [bkG gs T, bkI cs U, bkI os W]) (hp2 : Meets cfx 0 40 (zq184 nm w g y n a b r p q k u v s m) [bkG gs T, bkI cs U, bkI os W] (.raw (.tuple #[.agg #[.int .i64 x, .int .i64 z], .int .i64 e])) [bkG gs T, bkI cs U, bkI os W])  : Meets cfx 0 6 (zq184 nm w g y n a b r p q k u v s m) [bkG gs T, bkI cs U, bkI os W] (V.raw (.bool true)) [bkG gs T, bkI cs U, bkI os W] := by
  refine Meets.post (meets_ev cfx_mixed cfx_call zz zb (n := 40) (ans := [Ans.go, Ans.go, zF, zF, zF, zF, zF, zF, zF, Ans.reth (V.raw (.tuple { toList := [.agg { toList := [.int .i64 x, .int .i64 z] }, .int .i64 e] })) (zq152 gs T cs U os W nm w g y n a b r p q k u v), Ans.reth (V.raw (.tuple { toList := [.agg { toList := [.int .i64 x, .int .i64 z] }, .int .i64 e] })) [bkG gs T, bkI cs U, bkI os W, some (.cells (lwC nm w g y n a b r p q k) 29 .rw), some (.cells [iV u, iV v] 24 .rw), some (.cells (lwC nm w g y n a b r p q k) 29 .rw), some (.cells [iV x, iV z] 24 .rw)], zT, zT, zT, Ans.reth (V.raw (.bool true)) (zq121 gs T cs U os W nm w g y n a b r p q k u v x z), zT]) (v := V.raw (.bool true)) (h' := (zq121 gs T cs U os W nm w g y n a b r p q k u v x z)) (cons := [(decide (100 < (↑nm.size : Int)) = false), (false = false), (decide (20 < (↑n : Int)) = false), (false = false), (decide (300 < (↑k : Int)) = false), (false = false), (decide (20 < (↑m : Int)) = false), (Meets cfx 0 39 [lwA nm w g y n a b r p q k, V.raw (.agg { toList := [.int .i64 u, .int .i64 v] }), iV s, .slo 2 m] (zq152 gs T cs U os W nm w g y n a b r p q k u v) (V.raw (.tuple { toList := [.agg { toList := [.int .i64 x, .int .i64 z] }, .int .i64 e] })) (zq152 gs T cs U os W nm w g y n a b r p q k u v)), (Meets cfx 0 40 [lwA nm w g y n a b r p q k, V.raw (.agg { toList := [.int .i64 u, .int .i64 v] }), iV s, .slo 2 m] [bkG gs T, bkI cs U, bkI os W, some (.cells (lwC nm w g y n a b r p q k) 29 .rw), some (.cells [iV u, iV v] 24 .rw), some (.cells (lwC nm w g y n a b r p q k) 29 .rw), some (.cells [iV x, iV z] 24 .rw)] (V.raw (.tuple { toList := [.agg { toList := [.int .i64 x, .int .i64 z] }, .int .i64 e] })) [bkG gs T, bkI cs U, bkI os W, some (.cells (lwC nm w g y n a b r p q k) 29 .rw), some (.cells [iV u, iV v] 24 .rw), some (.cells (lwC nm w g y n a b r p q k) 29 .rw), some (.cells [iV x, iV z] 24 .rw)]), ((decide (x = x) && (decide (z = z) && true)) = true), (true = true), (decide (e = e) = true), (Meets cfx 0 13 [] (zq121 gs T cs U os W nm w g y n a b r p q k u v x z) (V.raw (.bool true)) (zq121 gs T cs U os W nm w g y n a b r p q k u v x z)), (true = true)]) zk
    ⟨zdo, rfl, zdo, rfl, zdo, rfl, zdo, (by exact below_ro (lim := 0) (N := []) rfl rfl (fun k => if k = 0 then 0 else if k = 1 then 1 else 2) (fun _ => false) hp1 ⟨⟨_, _, rfl, mix_all _ _, .inl ⟨rfl, _, rfl⟩⟩, ⟨_, _, rfl, ints_all _, .inl ⟨rfl, _, rfl⟩⟩, ⟨_, _, rfl, ints_all _, .inl ⟨rfl, _, rfl⟩⟩, trivial⟩ (fun _ _ => rfl) rfl rfl rfl (fun k X h => by simp at h) zz), (by exact below_ro (lim := 0) (N := []) rfl rfl (fun k => if k = 0 then 0 else if k = 1 then 1 else 2) (fun _ => false) hp2 ⟨⟨_, _, rfl, mix_all _ _, .inl ⟨rfl, _, rfl⟩⟩, ⟨_, _, rfl, ints_all _, .inl ⟨rfl, _, rfl⟩⟩, ⟨_, _, rfl, ints_all _, .inl ⟨rfl, _, rfl⟩⟩, trivial⟩ (fun _ _ => rfl) rfl rfl rfl (fun k X h => by simp at h) zz), zdf, rfl, zdf, (by exact below_ro (lim := 0) (N := []) rfl rfl (fun k => k) (fun _ => false) lnWorks trivial (fun _ _ => rfl) rfl rfl rfl (fun k X h => by simp at h) zz), rfl, trivial⟩) zk (fun RT RH => reshape2 (lim := 0) 3 cfx_G rfl [] zk zk (by exact (ents_raw (mix_all _ _) rfl rfl (ents_raw (ints_all _) rfl rfl (ents_raw (ints_all _) rfl rfl (ents_nil))))) RT RH)
theorem lawPuts (nm : ByteArray) (gs cs : List Int) (n k : Nat) (T U : Nat) (w g y a b r p q : Int) (os : List Int) (m : Nat) (W : Nat) (u v s : Int) (hzg : n * 5 ≤ gs.length) (hzc : k * 3 ≤ cs.length) (h9 : nm.size ≤ 9223372036854775807) (hz : m * 3 ≤ os.length) : Meets cfx 0 6 (zq184 nm w g y n a b r p q k u v s m) [bkG gs T, bkI cs U, bkI os W] (.raw (.bool true)) [bkG gs T, bkI cs U, bkI os W] := by
  by_cases h1 : nm.size ≤ 100
  case neg => exact lpu_great1 nm gs cs n k T U w g y a b r p q os m W u v s zo h9
  by_cases h2 : n ≤ 20
  case neg => exact lpu_great2 nm gs cs n k T U w g y a b r p q os m W u v s h1 zo
  by_cases h3 : k ≤ 300
  case neg => exact lpu_great3 nm gs cs n k T U w g y a b r p q os m W u v s h1 h2 zo
  by_cases h4 : m ≤ 20
  case neg => exact lpu_great4 nm gs cs n k T U w g y a b r p q os m W u v s h1 h2 h3 zo
  obtain ⟨x, z, e, hp1, hp2⟩ := putBoth nm gs cs n k T U w g y a b r p q os m W u v s hzg hzc h2 h3 h1 hz zo
  exact lpu_ok nm gs cs n k T U w g y a b r p q os m W u v s h1 h2 h3 h4 x z e hp1 hp2
end Go.Proofs.Ytmelbcmfahcffaa
end
section
namespace Go.Proofs.Ytmelbcmfahcffaa.K
open Go Go.Deep Go.ChangeShapes Go.WideShapes Go.ChangeAt Go.RowKit
section
variable {H : Type} {enc : TypeId × Value → H} {P : Program} {w : World} {base : Nat} {spare : Nat → Bool} {held : Bool} {r : Reach} {b0 : Nat}
theorem open_parts {t : TypeId} {fs : Array Field} {v : Value} {dd : DataW H} {p : List MemPlace} (ts : List TypeId) (hts : P.cellTypes P.depth t = some ts) (hs : P.underlying t = some (.struct fs)) (hv : Value.okWide P w r b0 t v) (h : DataW.Trod enc P w base spare held t v dd p) :
    ∃ cs : List Value, v = .agg ⟨cs⟩ ∧ cs.length = P.cellsOf t ∧ (∀ (i : Nat) (f : Field), fs[i]? = some f → ∃ fuel x, DataW.trod enc P w base spare held fuel f.type ((cs.drop f.offset).take (P.cellsOf f.type)) = some x) ∧
      ∀ (i : Nat) (u : Value), cs[i]? = some u → ∃ y, ts[i % ts.length]? = some y ∧ Cell.okWide P w r b0 y u := by
  unfold Value.okWide at hv
  rw [hs] at hv
  obtain ⟨cs, rfl, hsz, ts', h1, _, h3⟩ := hv
  rw [hts, Option.some.injEq] at h1
  subst h1
  refine ⟨cs.toList, rfl, by simpa using hsz, fun i f hi => ?_, fun i u hu => h3 i u (by simpa using hu)⟩
  obtain ⟨fuel, hf⟩ := h
  obtain ⟨xs, n, _, _, hl, hxl, hg⟩ := DataW.trod_struct hs hf
  have hlt : i < xs.length := by
    have := (Array.getElem?_eq_some_iff.1 hi).1
    omega
  exact ⟨n, xs[i], (hg i f hi).trans (List.getElem?_eq_getElem hlt)⟩
theorem cell_slice {t e : TypeId} {u : Value} {fuel : Nat} {x : DataW H × List MemPlace} (hs : P.underlying t = some (.slice e)) (hc : Cell.okWide P w r b0 t u) (h : DataW.trod enc P w base spare held fuel t [u] = some x) : Value.okWide P w r b0 t u ∧ DataW.Trod enc P w base spare held t u x.1 x.2 := by
  have hv : Value.okWide P w r b0 t u := by
    unfold Value.okWide
    rw [hs]
    exact hc
  obtain ⟨a, l, c, rfl⟩ := okWide_slice hs hv
  exact ⟨hv, fuel, h⟩
theorem cell_int {t : TypeId} {k : IntKind} {fuel : Nat} {u : Value} {x : DataW H × List MemPlace} (hk : flatK P 9 t = some [some k]) (h : DataW.trod enc P w base spare held fuel t [u] = some x) : ∃ n, u = .int k n ∧ (Lit.int k n).wf = true := by
  obtain ⟨n, rest, h1, h2, _⟩ := flat_cells 9 fuel t _ _ _ hk h
  cases h1
  exact ⟨n, rfl, h2⟩
theorem list11 {α : Type} {l : List α} (h : l.length = 11) : ∃ a0 a1 a2 a3 a4 a5 a6 a7 a8 a9 a10, l = [a0, a1, a2, a3, a4, a5, a6, a7, a8, a9, a10] := by
  match l, h with
  | [a0, a1, a2, a3, a4, a5, a6, a7, a8, a9, a10], _ => exact ⟨a0, a1, a2, a3, a4, a5, a6, a7, a8, a9, a10, rfl⟩
end
end Go.Proofs.Ytmelbcmfahcffaa.K
namespace Go.Proofs.Ytmelbcmfahcffaa.E2
open Go Go.RowKit
def RowsAt (ls : List Loc) (H : Heap) (w : World) : Prop := ∀ (i : Nat) (B : Blk), H[i]? = some (some B) → ∃ cs T, B = .cells cs T .ro ∧ cs.all isRawV = true ∧ ∀ ρ, CellsOk ρ (ls.getD i (Loc.at 0)) w cs T .ro
theorem rowsAt_nil {w : World} : RowsAt [] [] w := fun i B h => by simp at h
theorem rowsAt_cons {cs : List V} {T : TypeId} {l : Loc} {ls : List Loc} {H : Heap} {w : World} (ha : cs.all isRawV = true) (h0 : ∀ ρ, CellsOk ρ l w cs T .ro) (hr : RowsAt ls H w) : RowsAt (l :: ls) (some (.cells cs T .ro) :: H) w := fun i B h => by
  match i with
  | 0 =>
    simp only [List.getElem?_cons_zero, Option.some.injEq] at h
    exact ⟨cs, T, h.symm, ha, h0⟩
  | i + 1 => exact hr i B (by simpa using h)
theorem calls_at {c : Cfg} {lim : Nat} {f : FuncId} {args : List V} {H H' : Heap} {x : Value} (hm : Meets c lim f args H (.raw x) H') (hL : c.L = 0) (hG : c.G = []) (ls : List Loc) (w : World) (hlen : ls.length = H.length)
    (hro : RowsAt ls H w) (hu : unders H.length args = true) :
    Calls c.P f (concs ⟨fun i => ls.getD i (Loc.at 0), fun _ => undef⟩ args).toArray w fun e w' => e = .returned x ∧ Below w.heap.size w w' := by
  have R : RelH c ⟨fun i => ls.getD i (Loc.at 0), fun _ => undef⟩ H w := by
    refine ⟨fun i B hB => ?_, fun i j hi hj he => ?_, fun i B hB => ?_, fun p hp => (by rw [hG] at hp; cases hp), by omega, fun i hi => by omega⟩
    · obtain ⟨cs, T, rfl, _, hk⟩ := hro i B hB
      exact hk _
    · obtain ⟨B, a1, a2, a3⟩ := hi
      obtain ⟨cs, T, rfl, _⟩ := hro i B a1
      cases a2
    · obtain ⟨cs, T, rfl, ha, _⟩ := hro i B hB
      exact unders_raws _ _ ha
  refine (hm _ w R hu).mono fun e w' ⟨ρ', _, he, _, F, _⟩ => ?_
  refine ⟨he, F.os, F.tape, F.output, F.size, fun k hk => F.blk k hk fun i _ h2 => ?_⟩
  obtain ⟨B, a1, a2, a3⟩ := h2
  obtain ⟨cs, T, rfl, _⟩ := hro i B a1
  cases a2
end Go.Proofs.Ytmelbcmfahcffaa.E2
end
section
namespace Go.Proofs.Ytmelbcmfahcffaa.K
open Go Go.Deep Go.ChangeShapes Go.WideShapes Go.ChangeAt Go.RowKit
section
variable {H : Type} {enc : TypeId × Value → H} {w : World} {base : Nat} {spare : Nat → Bool} {held : Bool} {r : Reach} {b0 : Nat}
set_option maxHeartbeats 1000000 in
theorem open_lawn {v : Value} {dd : DataW H} {p : List MemPlace} (hv : Value.okWide Try.prog w r b0 29 v) (h : DataW.Trod enc Try.prog w base spare held 29 v dd p) :
    ∃ (nm : ByteArray) (z0 z1 z2 z3 z4 z5 z6 z7 : Int) (l0 l1 : E2.Loc) (n k : Nat) (gs cs : List Int) (T U : TypeId), v = .agg ⟨[.string nm, .int .i64 z0, .int .i64 z1, .int .i64 z2, E2.slcOf l0 n, .int .i64 z3, .int .i64 z4, .int .i64 z5, .int .i64 z6, .int .i64 z7, E2.slcOf l1 k]⟩ ∧
      nm.size ≤ maxLen ∧ ((Lit.int .i64 z0).wf = true ∧ (Lit.int .i64 z1).wf = true ∧ (Lit.int .i64 z2).wf = true ∧ (Lit.int .i64 z3).wf = true ∧ (Lit.int .i64 z4).wf = true ∧ (Lit.int .i64 z5).wf = true ∧ (Lit.int .i64 z6).wf = true ∧ (Lit.int .i64 z7).wf = true) ∧
      gs.length = n * 5 ∧ cs.length = k * 3 ∧ (∀ ρ, E2.CellsOk ρ l0 w (E2.mix [false, false, false, false, true] gs) T .ro) ∧ ∀ ρ, E2.CellsOk ρ l1 w (E2.ints cs) U .ro := by
  obtain ⟨cs, rfl, hlen, hf, hc⟩ := open_parts (P := Try.prog) [9, 2, 2, 2, 22, 2, 2, 2, 3, 3, 27] zk Try.underlying29 hv h
  obtain ⟨a0, a1, a2, a3, a4, a5, a6, a7, a8, a9, a10, rfl⟩ := list11 (hlen.trans zk)
  obtain ⟨_, _, f0⟩ := hf 0 _ rfl
  obtain ⟨_, _, f1⟩ := hf 1 _ rfl
  obtain ⟨_, _, f2⟩ := hf 2 _ rfl
  obtain ⟨_, _, f3⟩ := hf 3 _ rfl
  obtain ⟨_, _, f4⟩ := hf 4 _ rfl
  obtain ⟨_, _, f5⟩ := hf 5 _ rfl
  obtain ⟨_, _, f6⟩ := hf 6 _ rfl
  obtain ⟨_, _, f7⟩ := hf 7 _ rfl
  obtain ⟨_, _, f8⟩ := hf 8 _ rfl
  obtain ⟨y4, e4, c4⟩ := hc 4 a4 rfl
  obtain ⟨y10, e10, c10⟩ := hc 10 a10 rfl
  cases e4
  cases e10
  obtain ⟨nm, e0, _, hnm⟩ := DataW.trod_string (P := Try.prog) Try.underlying9 f0
  obtain ⟨z0, rfl, w0⟩ := cell_int (P := Try.prog) (t := 2) (k := .i64) zk f1
  obtain ⟨z1, rfl, w1⟩ := cell_int (P := Try.prog) (t := 2) (k := .i64) zk f2
  obtain ⟨z2, rfl, w2⟩ := cell_int (P := Try.prog) (t := 2) (k := .i64) zk f3
  obtain ⟨v4, t4⟩ := cell_slice (P := Try.prog) Try.underlying22 c4 f4
  obtain ⟨z3, _, d3, w3, z4, _, d4, w4, z5, _, d5, w5, _⟩ := flat_cells (P := Try.prog) 9 _ 26 [some .i64, some .i64, some .i64] _ _ zk f5
  obtain ⟨z6, rfl, w6⟩ := cell_int (P := Try.prog) (t := 3) (k := .i64) zk f6
  obtain ⟨z7, rfl, w7⟩ := cell_int (P := Try.prog) (t := 3) (k := .i64) zk f7
  obtain ⟨v10, t10⟩ := cell_slice (P := Try.prog) Try.underlying27 c10 f8
  cases e0
  cases d3
  cases d4
  cases d5
  obtain ⟨l0, n, gs, T, rfl, hg, _, h0⟩ := open_mix (P := Try.prog) [false, false, false, false, true] Try.underlying22 zk zk (by decide) v4 t4
  obtain ⟨l1, k, cs, U, rfl, hk, _, h1⟩ := open_row (P := Try.prog) Try.underlying27 (show K.flatK Try.prog 9 39 = some (List.replicate 3 (some .i64)) by kernel_rfl) (show Try.prog.cellsOf 39 = 3 by kernel_rfl) (by decide) v10 t10
  exact ⟨nm, z0, z1, z2, z3, z4, z5, z6, z7, l0, l1, n, k, gs, cs, T, U, rfl, hnm, ⟨w0, w1, w2, w3, w4, w5, w6, w7⟩, hg, hk, h0, h1⟩
end
end Go.Proofs.Ytmelbcmfahcffaa.K
end
section
namespace Go.Proofs.Ytmelbcmfahcffaa
open Go Go.ChangeShapes Go.WideShapes Go.ChangeAt Go.RowKit
theorem own : ownKnob Try.prog.godebug = none := by kernel_rfl
theorem laidOut : laidOutB Try.prog = true := by kernel_rfl
noncomputable def laidWorld (os : Os) : World := World.holding Try.prog os ⟨#[], #[], []⟩
end Go.Proofs.Ytmelbcmfahcffaa
end
section
namespace Go.Proofs.Ytmelbcmfahcffaa
open Go Go.ChangeShapes Go.WideShapes Go.ChangeAt Go.RowKit
namespace lawnPuts
theorem readable : ∀ t ∈ Try.f6.params.toList, Try.prog.readableRec t = true ∧ t < Try.prog.types.size := fun t ht => by
  have h := List.all_eq_true.1 (show (Try.f6.params.toList.all fun t => Try.prog.readableRec t && decide (t < Try.prog.types.size)) = true by kernel_rfl) t ht
  rw [Bool.and_eq_true, decide_eq_true_eq] at h
  exact h
theorem contract (H : Type) (enc : TypeId × Value → H) (W : World) (base : Nat) (args : Array Value) (ds gs : List (DataW H)) (before : List MemPlace)
    (hval : ∀ (j : Nat) t v, Try.f6.params[j]? = some t → args[j]? = some v → Value.okWide Try.prog W .any base t v)
    (hW : DataW.Whole enc Try.prog Try.f6.params.toList Rows.lawnPutsSpec.vars false W args.toList ds gs before) :
    Calls Try.prog 6 args W fun e W' => ∃ v, e = .returned v ∧ Rows.lawnPutsSpec.post enc Try.prog Try.f6 false true false false W args v W' := by
  have hW' := hW
  obtain ⟨p, q, hA0, hV, rfl, hfz, hnd⟩ := hW
  have hA : DataW.TrodAll enc Try.prog W 0 (fun _ => true) true Try.f6.params.toList args.toList ds p := hA0
  rw [Try.params6] at hA hval
  obtain ⟨v0, vs0, d0, ds0, p0, q0, hargs, rfl, rfl, h0, r0⟩ := trodAll_cons hA
  obtain ⟨v1, vs1, d1, ds1, p1, q1, rfl, rfl, rfl, h1, r1⟩ := trodAll_cons r0
  obtain ⟨v2, vs2, d2, ds2, p2, q2, rfl, rfl, rfl, h2, r2⟩ := trodAll_cons r1
  obtain ⟨v3, vs3, d3, ds3, p3, q3, rfl, rfl, rfl, h3, r3⟩ := trodAll_cons r2
  obtain ⟨rfl, rfl, rfl⟩ := trodAll_nil r3
  obtain rfl : args = #[v0, v1, v2, v3] := by cases args; simp_all
  obtain ⟨rfl, rfl⟩ := trodVars_none hV
  obtain ⟨l_nm, l_z0, l_z1, l_z2, l_z3, l_z4, l_z5, l_z6, l_z7, l_la, l_lb, l_n, l_k, l_gs, l_cs, l_T, l_U, rfl, l_hnm, l_hz, l_hg, l_hk, l_ha, l_hb⟩ := K.open_lawn (hval 0 29 v0 rfl rfl) h0
  obtain ⟨c1, rfl, g1⟩ := K.flat_open Try.underlying24 (show K.flatK Try.prog 9 24 = some [some .i64, some .i64] by kernel_rfl) (hval 1 24 v1 rfl rfl) h1
  obtain ⟨p0, zp0, rfl, xp0, p1, zp1, rfl, xp1, rfl⟩ := g1
  have yp0 := bounds_i64 xp0
  have yp1 := bounds_i64 xp1
  obtain ⟨r, rfl, _, _, xr⟩ := open_int Try.underlying2 (hval 2 2 v2 rfl rfl) h2
  have yr := bounds_i64 xr
  obtain ⟨others_l, others_m, others_z, others_T, rfl, others_len, others_rng, others_ok⟩ := K.open_row Try.underlying32 (show K.flatK Try.prog 9 26 = some (List.replicate 3 (some .i64)) by kernel_rfl) (show Try.prog.cellsOf 26 = 3 by kernel_rfl) (by decide) (hval 3 32 v3 rfl rfl) h3
  clear hA0
  have hR := E2.calls_at (c := cfx) (args := [.agg [.raw (.string l_nm), .raw (.int .i64 l_z0), .raw (.int .i64 l_z1), .raw (.int .i64 l_z2), .slo 0 l_n, .raw (.int .i64 l_z3), .raw (.int .i64 l_z4), .raw (.int .i64 l_z5), .raw (.int .i64 l_z6), .raw (.int .i64 l_z7), .slo 1 l_k], .raw (.agg #[.int .i64 p0, .int .i64 p1]), .raw (.int .i64 r), .slo 2 others_m]) (x := .bool true) (lawPuts l_nm l_gs l_cs l_n l_k l_T l_U l_z0 l_z1 l_z2 l_z3 l_z4 l_z5 l_z6 l_z7 others_z others_m others_T p0 p1 r (Nat.le_of_eq l_hg.symm) (Nat.le_of_eq l_hk.symm) (by have := l_hnm; unfold maxLen at this; omega) (by omega)) rfl rfl [l_la, l_lb, others_l] W rfl (E2.rowsAt_cons (E2.mix_all _ _) l_ha (E2.rowsAt_cons (E2.ints_all _) l_hb (E2.rowsAt_cons (E2.ints_all _) others_ok (E2.rowsAt_nil)))) rfl
  refine Calls.mono hR fun e W' hw => ?_
  exact ⟨_, hw.1, K.law_post laidOut readable (by kernel_rfl) Try.underlying4 rfl hW' rfl hw.2⟩
theorem laid_met (os : Os) : laidMet Try.prog Rows.lawnPutsRow.laid ((laidWorld os).forCall (fun _ _ => 0) ⟨#[], #[.agg #[.string ⟨#[]⟩, .int .i64 0, .int .i64 0, .int .i64 0, .slice none 0 0, .int .i64 0, .int .i64 0, .int .i64 0, .int .i64 0, .int .i64 0, .slice none 0 0], .agg #[.int .i64 0, .int .i64 0], .int .i64 0, .slice none 0 0], []⟩).memory :=
  laidMet_of_run' 8 (by kernel_rfl) (by kernel_rfl)
theorem reads (os : Os) {H : Type} (enc : TypeId × Value → H) : ∃ places, DataW.whole enc Try.prog ((laidWorld os).forCall (fun _ _ => 0) ⟨#[], #[.agg #[.string ⟨#[]⟩, .int .i64 0, .int .i64 0, .int .i64 0, .slice none 0 0, .int .i64 0, .int .i64 0, .int .i64 0, .int .i64 0, .int .i64 0, .slice none 0 0], .agg #[.int .i64 0, .int .i64 0], .int .i64 0, .slice none 0 0], []⟩).memory Try.f6.params.toList Rows.lawnPutsSpec.vars false (#[.agg #[.string ⟨#[]⟩, .int .i64 0, .int .i64 0, .int .i64 0, .slice none 0 0, .int .i64 0, .int .i64 0, .int .i64 0, .int .i64 0, .int .i64 0, .slice none 0 0], .agg #[.int .i64 0, .int .i64 0], .int .i64 0, .slice none 0 0] : Array Value).toList 8 = some ([.agg [.lit (.string []), .lit (.int .i64 0), .lit (.int .i64 0), .lit (.int .i64 0), .nil, .agg [.agg [.lit (.int .i64 0), .lit (.int .i64 0)], .lit (.int .i64 0)], .lit (.int .i64 0), .lit (.int .i64 0), .nil], .agg [.lit (.int .i64 0), .lit (.int .i64 0)], .lit (.int .i64 0), .nil], [], places) :=
  ⟨[], by kernel_rfl⟩
theorem lifted (os : Os) (started : os.Started) (H : Type) (enc : TypeId × Value → H) (F : Stop.Interp) :
    ReturnsInHanded {} Try.checked os 6 .any ((OpenSpec.ofChange Rows.lawnPutsSpec).preRow enc Try.prog Try.f6 Rows.lawnPutsRow.domain false Rows.lawnPutsRow.laid) (((OpenSpec.ofChange Rows.lawnPutsSpec).at F).post enc Try.prog Try.f6 false true false false) := by
  obtain ⟨places, hx⟩ := reads os enc
  refine returnsInHanded_of_row (C := Try.checked) (s := OpenSpec.ofChange Rows.lawnPutsSpec) own started (by kernel_rfl) Try.func6
    (witness_row_at (enc := enc) (C := Try.checked) false (laidWorld os) #[.agg #[.string ⟨#[]⟩, .int .i64 0, .int .i64 0, .int .i64 0, .slice none 0 0, .int .i64 0, .int .i64 0, .int .i64 0, .int .i64 0, .int .i64 0, .slice none 0 0], .agg #[.int .i64 0, .int .i64 0], .int .i64 0, .slice none 0 0] rfl (by kernel_rfl) (by kernel_rfl) (by kernel_rfl)
      (OpenSpec.preRow_of_cond 8 hx (by kernel_rfl) (fun k hk => by cases hk) (by kernel_rfl) (laid_met os))) ?_
  intro W base args ds gs before hval hW _ _ _ hL _ _
  exact contract H enc W base args ds gs before hval hW
theorem said : Rows.LawnPutsSaid :=
  OpenClaim.holds_of_cond 6 Try.f6 rfl rfl rfl rfl rfl rfl rfl ⟨rfl, rfl, rfl, rfl, rfl⟩ rfl rfl rfl rfl rfl (by kernel_rfl) Try.func6 (by kernel_rfl)
    (of_decide_eq_true (by kernel_rfl)) (by unfold Func.isWrapper; first | (rw [if_pos (by decide +kernel)]; kernel_rfl) | (rw [if_neg (by decide +kernel)]; exact ⟨rfl, rfl⟩))
    (fun os started H enc _ F => by rw [OpenClaim.pre_eq_preRow]; exact lifted os started H enc F)
end lawnPuts
end Go.Proofs.Ytmelbcmfahcffaa
end
