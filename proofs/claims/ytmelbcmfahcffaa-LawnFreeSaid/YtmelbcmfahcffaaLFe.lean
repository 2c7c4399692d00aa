/-
  For all lawns, points, radii, other balls and parts: roquetlaw02.LawnFree returns true, and leaves its arguments as they were. No condition.
-/
import Derived.Test.YtmelbcmfahcffaaLFd
set_option linter.unusedVariables false
set_option linter.unusedSimpArgs false
set_option maxRecDepth 100000
section
namespace Go.Proofs.Ytmelbcmfahcffaa
open Go Go.RowKit Go.Proofs.Ytmelbcmfahcffaa.E2
variable (nm : ByteArray) (gs cs : List Int) (n k : Nat) (T U : Nat) (w g y a b r p q : Int)
abbrev zq70 (gs : List Int) (T : Nat) (cs : List Int) (U : Nat) (os : List Int) (W : Nat) (nm : ByteArray) (w : Int) (g : Int) (y : Int) (n : Nat) (a : Int) (b : Int) (r : Int) (p : Int) (q : Int) (k : Nat) (a1 : Int) (a2 : Int) (b1 : Int) (b2 : Int) (s : Int) (m : Nat) (hs : List Int) : Heap := [bkG gs T, bkI cs U, bkI os W, some (.cells (lwC nm w g y n a b r p q k) 29 .ro), some (.cells [iV a1, iV a2] 24 .ro), some (.cells [iV b1, iV b2] 24 .ro), some (.cells [iV a1, iV a2, iV b1, iV b2] 24 .ro), some (.cells (lwC nm w g y n a b r p q k) 29 .ro), some (.cells [iV a1, iV a2] 24 .ro), some (.cells [iV b1, iV b2] 24 .ro), some (.cells [iV (M.radE s), iV (M.othE os m)] 33 .ro), some (.cells [iV a1, iV a2] 24 .ro), some (.cells [iV b1, iV b2] 24 .ro), some (.cells [iV s] 2 .ro), some (.cells (ints hs) 3 (.row 1))]
abbrev zq93 (gs : List Int) (T : Nat) (cs : List Int) (U : Nat) (os : List Int) (W : Nat) (nm : ByteArray) (w : Int) (g : Int) (y : Int) (n : Nat) (a : Int) (b : Int) (r : Int) (p : Int) (q : Int) (k : Nat) (a1 : Int) (a2 : Int) (b1 : Int) (b2 : Int) : Heap := [bkG gs T, bkI cs U, bkI os W, bkW nm w g y n a b r p q k, bkP a1 a2, bkP b1 b2, some (.cells [iV a1, iV a2, iV b1, iV b2] 24 (.row 2)), bkW nm w g y n a b r p q k, bkP a1 a2, bkP b1 b2]
theorem lnInWay_ok (E : Int) (hC : (zq180 nm w g y n a b r p q k gs T cs U E)) (os : List Int) (m : Nat) (W : Nat) (a1 a2 b1 b2 s : Int) (hz : m * 3 ≤ os.length) (hmb : m ≤ 1000000) (hE : E = 0) (hP : M.ptE a1 a2 = 0) (hQ : M.ptE b1 b2 = 0) (hS : M.radE s = 0) (hO : M.othE os m = 0) (hs : List Int) (cn : Nat) (hfd : Meets cfx 0 72 [lwA nm w g y n a b r p q k, .slo 2 m, V.fn (Fn.func 102) [] [.ptr 3 0, .ptr 4 0, .ptr 5 0]] [bkG gs T, bkI cs U, bkI os W, some (.cells [.raw (.int .i64 a1), .raw (.int .i64 a2)] 24 .ro), some (.cells [.raw (.int .i64 b1), .raw (.int .i64 b2)] 24 .ro), some (.cells [.raw (.int .i64 s)] 2 .ro)] (.slo 6 cn) ([bkG gs T, bkI cs U, bkI os W, some (.cells [.raw (.int .i64 a1), .raw (.int .i64 a2)] 24 .ro), some (.cells [.raw (.int .i64 b1), .raw (.int .i64 b2)] 24 .ro), some (.cells [.raw (.int .i64 s)] 2 .ro), some (.cells (ints hs) 3 (.row 1))]))  : Meets cfx 0 28 [lwA nm w g y n a b r p q k, .raw (.agg #[.int .i64 a1, .int .i64 a2]), .raw (.agg #[.int .i64 b1, .int .i64 b2]), .raw (.int .i64 s), .slo 2 m] [bkG gs T, bkI cs U, bkI os W] (V.tup [.slo 3 cn, iV 0]) [bkG gs T, bkI cs U, bkI os W, some (.cells (ints hs) 3 (.row 1))] := by
  refine Meets.post (meets_ev cfx_mixed cfx_call zz zb (n := 40) (ans := [Ans.go, Ans.go, Ans.reth (iV E) [bkG gs T, bkI cs U, bkI os W, bkW nm w g y n a b r p q k, bkP a1 a2, bkP b1 b2, some (.cells [iV a1, iV a2, iV b1, iV b2] 24 (.row 2)), bkW nm w g y n a b r p q k], zF, zT, Ans.ret (iV (M.ptE a1 a2)), zF, zT, Ans.ret (iV (M.ptE b1 b2)), zF, zF, Ans.ret (iV (M.radE s)), Ans.reth (iV (M.othE os m)) (zq93 gs T cs U os W nm w g y n a b r p q k a1 a2 b1 b2), Ans.go, zT, zF, zT, zF, zF, zF, Ans.olds [(6, 29)], Ans.go, Ans.reth (.slo 14 cn) (zq70 gs T cs U os W nm w g y n a b r p q k a1 a2 b1 b2 s m hs)]) (v := V.tup [.slo 14 cn, iV 0]) (h' := [bkG gs T, bkI cs U, bkI os W, bkW nm w g y n a b r p q k, bkP a1 a2, bkP b1 b2, some (.cells [iV a1, iV a2, iV b1, iV b2] 24 (.row 2)), bkW nm w g y n a b r p q k, bkP a1 a2, bkP b1 b2, some (.cells [iV (M.radE s), iV (M.othE os m)] 33 (.row 1)), bkP a1 a2, bkP b1 b2, some (.cells [iV s] 2 .rw), some (.cells (ints hs) 3 (.row 1))]) (cons := [(2 ≤ 9223372036854775807), (Meets cfx 0 52 [lwA nm w g y n a b r p q k] [bkG gs T, bkI cs U, bkI os W, bkW nm w g y n a b r p q k, bkP a1 a2, bkP b1 b2, some (.cells [iV a1, iV a2, iV b1, iV b2] 24 (.row 2)), bkW nm w g y n a b r p q k] (iV E) [bkG gs T, bkI cs U, bkI os W, bkW nm w g y n a b r p q k, bkP a1 a2, bkP b1 b2, some (.cells [iV a1, iV a2, iV b1, iV b2] 24 (.row 2)), bkW nm w g y n a b r p q k]), ((!decide (E = 0)) = false), (true = true), ((0 : Int) ≤ (0 : Int) ∧ (0 : Int) < (2 : Int)), (Ret cfx 56 [V.raw (.agg { toList := [.int .i64 a1, .int .i64 a2] })] (iV (M.ptE a1 a2))), ((!decide (M.ptE a1 a2 = 0)) = false), (inR IntKind.i64 1), (true = true), ((0 : Int) ≤ (1 : Int) ∧ (1 : Int) < (2 : Int)), (Ret cfx 56 [V.raw (.agg { toList := [.int .i64 b1, .int .i64 b2] })] (iV (M.ptE b1 b2))), ((!decide (M.ptE b1 b2 = 0)) = false), (inR IntKind.i64 2), (false = false), (Ret cfx 80 [iV s] (iV (M.radE s))), (Meets cfx 0 101 [.slo 2 m] (zq93 gs T cs U os W nm w g y n a b r p q k a1 a2 b1 b2) (iV (M.othE os m)) (zq93 gs T cs U os W nm w g y n a b r p q k a1 a2 b1 b2)), (2 ≤ 9223372036854775807), (true = true), ((0 : Int) ≤ (0 : Int) ∧ (0 : Int) < (2 : Int)), ((!decide (M.radE s = 0)) = false), (inR IntKind.i64 1), (true = true), ((0 : Int) ≤ (1 : Int) ∧ (1 : Int) < (2 : Int)), ((!decide (M.othE os m = 0)) = false), (inR IntKind.i64 2), (false = false), (false = false), (Meets cfx 0 72 [lwA nm w g y n a b r p q k, .slo 2 m, V.fn (Fn.func 102) [] [.ptr 11 0, .ptr 12 0, .ptr 13 0]] [bkG gs T, bkI cs U, bkI os W, some (.cells (lwC nm w g y n a b r p q k) 29 .ro), some (.cells [iV a1, iV a2] 24 .ro), some (.cells [iV b1, iV b2] 24 .ro), some (.cells [iV a1, iV a2, iV b1, iV b2] 24 .ro), some (.cells (lwC nm w g y n a b r p q k) 29 .ro), some (.cells [iV a1, iV a2] 24 .ro), some (.cells [iV b1, iV b2] 24 .ro), some (.cells [iV (M.radE s), iV (M.othE os m)] 33 .ro), some (.cells [iV a1, iV a2] 24 .ro), some (.cells [iV b1, iV b2] 24 .ro), some (.cells [iV s] 2 .ro)] (.slo 14 cn) (zq70 gs T cs U os W nm w g y n a b r p q k a1 a2 b1 b2 s m hs)), ((ints hs).all isRawV = true)]) zk
    ⟨zds, (by exact below2 (lim := 0) rfl rfl 0 1 (N := []) hC (mix_all _ _) (ints_all _) rfl (fun k X h => by simp at h) rfl rfl zz), zdf, rfl, zo, (lnPoint _ _), zdf, inR_i64 zo zo, rfl, zo, (lnPoint _ _), zdf, inR_i64 zo zo, rfl, (lnRadius _), (by exact below_ro (lim := 0) (N := []) rfl rfl (fun k => 2) (fun _ => false) (lnOthers os m W hz hmb) ⟨⟨_, _, rfl, ints_all _, .inl ⟨rfl, _, rfl⟩⟩, trivial⟩ (fun _ _ => rfl) rfl rfl rfl (fun k X h => by simp at h) zz), zds, rfl, zo, zdf, inR_i64 zo zo, rfl, zo, zdf, inR_i64 zo zo, rfl, rfl, (by exact below_ro (lim := 0) (N := [some (.cells (ints hs) 3 (.row 1))]) rfl rfl (fun k => if k = 0 then 0 else if k = 1 then 1 else if k = 2 then 2 else if k = 3 then 11 else if k = 4 then 12 else 13) (fun _ => false) hfd ⟨⟨_, _, rfl, mix_all _ _, .inl ⟨rfl, _, rfl⟩⟩, ⟨_, _, rfl, ints_all _, .inl ⟨rfl, _, rfl⟩⟩, ⟨_, _, rfl, ints_all _, .inl ⟨rfl, _, rfl⟩⟩, ⟨_, _, rfl, rfl, .inl ⟨rfl, _, rfl⟩⟩, ⟨_, _, rfl, rfl, .inl ⟨rfl, _, rfl⟩⟩, ⟨_, _, rfl, rfl, .inl ⟨rfl, _, rfl⟩⟩, trivial⟩ (fun _ _ => rfl) rfl rfl rfl (new_row _ _ _) zz), (by first | exact ints_all _ | rfl), trivial⟩) zk (fun RT RH => reshape2 (lim := 0) 3 cfx_G rfl [some 14] zk zk (by exact (ents_raw (mix_all _ _) rfl rfl (ents_raw (ints_all _) rfl rfl (ents_raw (ints_all _) rfl rfl (ents_raw (ints_all _) rfl rfl (ents_nil)))))) RT RH)
end Go.Proofs.Ytmelbcmfahcffaa
end
section
namespace Go.Proofs.Ytmelbcmfahcffaa
open Go Go.RowKit Go.Proofs.Ytmelbcmfahcffaa.E2
theorem ex_mix : mix [false, false, false, false, true] [50000, 40000, 6000, 500, 0, 30000, 100000, 6000, 500, 1] = ([.raw (.int .i64 50000), .raw (.int .i64 40000), .raw (.int .i64 6000), .raw (.int .i64 500), .raw (.bool false), .raw (.int .i64 30000), .raw (.int .i64 100000), .raw (.int .i64 6000), .raw (.int .i64 500), .raw (.bool true)] : List V) := by kernel_rfl
theorem ex_ints : ints [100, 0, 0, 200, 5, -5] = ([.raw (.int .i64 100), .raw (.int .i64 0), .raw (.int .i64 0), .raw (.int .i64 200), .raw (.int .i64 5), .raw (.int .i64 (-5))] : List V) := by kernel_rfl
abbrev zq149 : Heap := [some (.cells (mix [false, false, false, false, true] [50000, 40000, 6000, 500, 0, 30000, 100000, 6000, 500, 1]) 71 .ro), some (.cells (ints [100, 0, 0, 200, 5, -5]) 39 .ro)]
theorem ex_check (nm : ByteArray) (hnm : nm.size ≤ 100) (hE : M.lawnE nm [50000, 40000, 6000, 500, 0, 30000, 100000, 6000, 500, 1] [100, 0, 0, 200, 5, -5] 2 2 100000 200000 5000 50000 100000 1200 2 1 = 0) : Meets cfx 0 52 [.agg [.raw (.string nm), .raw (.int .i64 100000), .raw (.int .i64 200000), .raw (.int .i64 5000), .slo 0 2, .raw (.int .i64 50000), .raw (.int .i64 100000), .raw (.int .i64 1200), .raw (.int .i64 2), .raw (.int .i64 1), .slo 1 2]] (zq149) (.raw (.int .i64 0)) (zq149) := by
  have h := lnCheck nm [50000, 40000, 6000, 500, 0, 30000, 100000, 6000, 500, 1] [100, 0, 0, 200, 5, -5] 2 2 71 39 100000 200000 5000 50000 100000 1200 2 1 (by decide) (by decide) (by decide) (by decide) hnm
  rw [hE] at h
  exact h
abbrev zq79 : Heap := [some (.cells [.raw (.int .i64 50000), .raw (.int .i64 40000), .raw (.int .i64 6000), .raw (.int .i64 500), .raw (.bool false), .raw (.int .i64 30000), .raw (.int .i64 100000), .raw (.int .i64 6000), .raw (.int .i64 500), .raw (.bool true)] 71 .ro), some (.cells [.raw (.int .i64 100), .raw (.int .i64 0), .raw (.int .i64 0), .raw (.int .i64 200), .raw (.int .i64 5), .raw (.int .i64 (-5))] 39 .ro)]
theorem ex_Stand (nm : ByteArray) (hnm : nm.size ≤ 100) (hE : M.lawnE nm [50000, 40000, 6000, 500, 0, 30000, 100000, 6000, 500, 1] [100, 0, 0, 200, 5, -5] 2 2 100000 200000 5000 50000 100000 1200 2 1 = 0) : Meets cfx 0 37 [.agg [.raw (.string nm), .raw (.int .i64 100000), .raw (.int .i64 200000), .raw (.int .i64 5000), .slo 0 2, .raw (.int .i64 50000), .raw (.int .i64 100000), .raw (.int .i64 1200), .raw (.int .i64 2), .raw (.int .i64 1), .slo 1 2], .raw (.int .i64 0), .raw (.bool true), .raw (.agg #[.int .i64 50000, .int .i64 42446]), .raw (.int .i64 2946)] (zq79) (.raw (.tuple #[.int .i64 3, .int .i64 0])) (zq79) := by
  have h := lnStand_ok nm [50000, 40000, 6000, 500, 0, 30000, 100000, 6000, 500, 1] [100, 0, 0, 200, 5, -5] 2 2 71 39 100000 200000 5000 50000 100000 1200 2 1 0 (ex_check nm hnm hE) 0 true 50000 42446 2946 rfl (by decide) (by decide) (by decide +kernel) (by decide +kernel) (by decide) (by decide) (by decide +kernel) (by decide) (by decide)
  revert h; delta lwA lwC bkG bkI bkW bkP zq180 zq79 zq149; intro h
  rw [show M.standZ [50000, 40000, 6000, 500, 0, 30000, 100000, 6000, 500, 1] (0 : Int).toNat true 50000 42446 2946 = 3 by kernel_rfl, ex_mix, ex_ints] at h
  exact h
theorem ex_posts (nm : ByteArray) : Meets cfx 0 53 [.agg [.raw (.string nm), .raw (.int .i64 100000), .raw (.int .i64 200000), .raw (.int .i64 5000), .slo 0 2, .raw (.int .i64 50000), .raw (.int .i64 100000), .raw (.int .i64 1200), .raw (.int .i64 2), .raw (.int .i64 1), .slo 1 2]] (zq149) (.slo 2 5) [some (.cells (mix [false, false, false, false, true] [50000, 40000, 6000, 500, 0, 30000, 100000, 6000, 500, 1]) 71 .ro), some (.cells (ints [100, 0, 0, 200, 5, -5]) 39 .ro), some (.cells (ints (M.rowP [50000, 40000, 6000, 500, 0, 30000, 100000, 6000, 500, 1] 2 50000 100000 1200)) 26 (.row 3))] :=
  lnPosts nm [50000, 40000, 6000, 500, 0, 30000, 100000, 6000, 500, 1] [100, 0, 0, 200, 5, -5] 2 2 71 39 100000 200000 5000 50000 100000 1200 2 1 (by decide) (by decide) zk
theorem ex_InWay (nm : ByteArray) (hnm : nm.size ≤ 100) (hE : M.lawnE nm [50000, 40000, 6000, 500, 0, 30000, 100000, 6000, 500, 1] [100, 0, 0, 200, 5, -5] 2 2 100000 200000 5000 50000 100000 1200 2 1 = 0) : Meets cfx 0 28 [.agg [.raw (.string nm), .raw (.int .i64 100000), .raw (.int .i64 200000), .raw (.int .i64 5000), .slo 0 2, .raw (.int .i64 50000), .raw (.int .i64 100000), .raw (.int .i64 1200), .raw (.int .i64 2), .raw (.int .i64 1), .slo 1 2], .raw (.agg #[.int .i64 49900, .int .i64 30000]), .raw (.agg #[.int .i64 49900, .int .i64 50000]), .raw (.int .i64 2946), .slo 2 0] [some (.cells [.raw (.int .i64 50000), .raw (.int .i64 40000), .raw (.int .i64 6000), .raw (.int .i64 500), .raw (.bool false), .raw (.int .i64 30000), .raw (.int .i64 100000), .raw (.int .i64 6000), .raw (.int .i64 500), .raw (.bool true)] 71 .ro), some (.cells [.raw (.int .i64 100), .raw (.int .i64 0), .raw (.int .i64 0), .raw (.int .i64 200), .raw (.int .i64 5), .raw (.int .i64 (-5))] 39 .ro), some (.cells [] 26 .ro)] (.tup [.slo 3 1, .raw (.int .i64 0)]) [some (.cells [.raw (.int .i64 50000), .raw (.int .i64 40000), .raw (.int .i64 6000), .raw (.int .i64 500), .raw (.bool false), .raw (.int .i64 30000), .raw (.int .i64 100000), .raw (.int .i64 6000), .raw (.int .i64 500), .raw (.bool true)] 71 .ro), some (.cells [.raw (.int .i64 100), .raw (.int .i64 0), .raw (.int .i64 0), .raw (.int .i64 200), .raw (.int .i64 5), .raw (.int .i64 (-5))] 39 .ro), some (.cells [] 26 .ro), some (.cells [.raw (.int .i64 0)] 3 (.row 1))] := by
  have hR := fnw_loop nm [50000, 40000, 6000, 500, 0, 30000, 100000, 6000, 500, 1] [100, 0, 0, 200, 5, -5] 2 2 71 39 100000 200000 5000 50000 100000 1200 2 1 [] (M.rowP [50000, 40000, 6000, 500, 0, 30000, 100000, 6000, 500, 1] 2 50000 100000 1200) 0 5 26 49900 30000 49900 50000 2946 (ex_posts nm) zk (by decide) (by decide) (by decide) (by unfold M.In; decide) (by unfold M.In; decide) (by decide) (by decide +kernel)
  have hF := fnw_all nm [50000, 40000, 6000, 500, 0, 30000, 100000, 6000, 500, 1] [100, 0, 0, 200, 5, -5] 2 2 71 39 100000 200000 5000 50000 100000 1200 2 1 [] (M.rowP [50000, 40000, 6000, 500, 0, 30000, 100000, 6000, 500, 1] 2 50000 100000 1200) 0 5 26 49900 30000 49900 50000 2946 (ex_posts nm) zk (by decide) (by decide) (by decide) (by unfold M.In; decide) (by unfold M.In; decide) (by decide) hR
  rw [show M.hits (M.cutZ ((M.rowP [50000, 40000, 6000, 500, 0, 30000, 100000, 6000, 500, 1] 2 50000 100000 1200) ++ List.take (0 * 3) []) 49900 30000 49900 50000 2946) (5 + 0) = [0] by kernel_rfl] at hF
  have h := lnInWay_ok nm [50000, 40000, 6000, 500, 0, 30000, 100000, 6000, 500, 1] [100, 0, 0, 200, 5, -5] 2 2 71 39 100000 200000 5000 50000 100000 1200 2 1 0 (ex_check nm hnm hE) [] 0 26 49900 30000 49900 50000 2946 (by decide) (by decide) rfl (by decide +kernel) (by decide +kernel) (by decide +kernel) zk [0] 1 hF
  revert h; delta lwA lwC bkG bkI bkW bkP zq76 zq87 zq180 zq93 zq70 zq149; intro h
  rw [ex_mix, ex_ints] at h
  exact h
end Go.Proofs.Ytmelbcmfahcffaa
end
section
namespace Go.Proofs.Ytmelbcmfahcffaa
open Go Go.RowKit Go.Proofs.Ytmelbcmfahcffaa.E2
theorem ex_over (v j : Int) (h : 0 ≤ j ∧ j ≤ 5892) (hv : 70000 - v = j ∨ 70000 - v = -j) : M.tchA [5000, 70000, 2946] 1 5000 v 2946 = decide (j < 5892) := by
  have e : M.tchA [5000, 70000, 2946] 1 5000 v 2946 = M.overB 5000 v 2946 5000 70000 2946 := by
    show (!((!M.overB 5000 v 2946 5000 70000 2946) && true)) = _
    cases M.overB 5000 v 2946 5000 70000 2946 <;> rfl
  rw [e, Bool.eq_iff_iff, decide_eq_true_iff, M.overB_iff]
  have q : M.sq 5000 v 5000 70000 = j * j := by
    unfold M.sq
    rcases hv with k | k <;> rw [k] <;> simp [Int.neg_mul_neg]
  rw [q]
  constructor
  · intro k
    rcases Int.lt_or_le j 5892 with r | r
    · exact r
    · obtain rfl : j = 5892 := by omega
      omega
  · intro k
    have := M.sq_le (a := j) (b := 5891) h.1 zo
    omega
theorem tmod_small {x d : Int} (h : 0 ≤ x) (k : x < d) : x.tmod d = x := Int.tmod_eq_of_lt h k
theorem tmod_less {x d : Int} (h : d ≤ x) (k : x < d + d) (hd : 0 < d) : x.tmod d = x - d := by
  rw [Int.tmod_eq_emod_of_nonneg (by omega), ← Int.sub_emod_right x d]
  exact Int.emod_eq_of_lt zo zo
theorem ex_half : M.yHalf 5000 5000 (100000 - 5000) (200000 - 5000) = 280000 := by kernel_rfl
theorem ex_yX (z : Int) (h : 370000 ≤ z) : M.yX 5000 5000 (100000 - 5000) (200000 - 5000) z = 5000 := by
  unfold M.yX
  rw [ex_half, if_neg (by omega), if_neg (by omega), if_neg (by omega)]
theorem ex_yY (z : Int) (h : 370000 ≤ z) : M.yY 5000 5000 (100000 - 5000) (200000 - 5000) z = 195000 - (z - 280000 - 90000) := by
  unfold M.yY
  rw [ex_half, if_neg (by omega), if_neg (by omega), if_neg (by omega)]
  omega
theorem ex_A (j : Int) (h : 0 ≤ j ∧ j ≤ 5892) : M.tchA [5000, 70000, 2946] 1 (M.yX 5000 5000 (100000 - 5000) (200000 - 5000) ((495000 + j).tmod (2 * 280000))) (M.yY 5000 5000 (100000 - 5000) (200000 - 5000) ((495000 + j).tmod (2 * 280000))) 2946 = decide (j < 5892) := by
  rw [tmod_small (by omega) (by omega), ex_yX _ (by omega), ex_yY _ (by omega)]
  exact ex_over _ j h zo
theorem ex_B (j : Int) (h : 0 ≤ j ∧ j ≤ 5892) : M.tchA [5000, 70000, 2946] 1 (M.yX 5000 5000 (100000 - 5000) (200000 - 5000) ((495000 - j + 2 * 280000).tmod (2 * 280000))) (M.yY 5000 5000 (100000 - 5000) (200000 - 5000) ((495000 - j + 2 * 280000).tmod (2 * 280000))) 2946 = decide (j < 5892) := by
  rw [tmod_less (by omega) (by omega) (by omega), show 495000 - j + 2 * 280000 - 2 * 280000 = 495000 - j by omega, ex_yX _ (by omega), ex_yY _ (by omega)]
  exact ex_over _ j h zo
theorem M.y_in {lx ly hx hy j : Int} (h1 : 0 ≤ lx ∧ lx ≤ hx ∧ hx ≤ 4194304) (h2 : 0 ≤ ly ∧ ly ≤ hy ∧ hy ≤ 4194304) (hj : 0 ≤ j ∧ j < 2 * M.yHalf lx ly hx hy) : (0 ≤ M.yX lx ly hx hy j ∧ M.yX lx ly hx hy j ≤ 4194304) ∧ (0 ≤ M.yY lx ly hx hy j ∧ M.yY lx ly hx hy j ≤ 4194304) := by
  have kh : M.yHalf lx ly hx hy = hx - lx + (hy - ly) := rfl
  unfold M.yX M.yY
  constructor <;> (repeat split) <;> omega
abbrev zq72 : Heap := [some (.cells [.raw (.int .i64 50000), .raw (.int .i64 40000), .raw (.int .i64 6000), .raw (.int .i64 500), .raw (.bool false), .raw (.int .i64 30000), .raw (.int .i64 100000), .raw (.int .i64 6000), .raw (.int .i64 500), .raw (.bool true)] 71 .ro), some (.cells [.raw (.int .i64 100), .raw (.int .i64 0), .raw (.int .i64 0), .raw (.int .i64 200), .raw (.int .i64 5), .raw (.int .i64 (-5))] 39 .ro), some (.cells [.raw (.int .i64 5000), .raw (.int .i64 70000), .raw (.int .i64 2946)] 26 .ro)]
theorem ex_Put (nm : ByteArray) (hnm : nm.size ≤ 100) (hE : M.lawnE nm [50000, 40000, 6000, 500, 0, 30000, 100000, 6000, 500, 1] [100, 0, 0, 200, 5, -5] 2 2 100000 200000 5000 50000 100000 1200 2 1 = 0) : Meets cfx 0 39 [.agg [.raw (.string nm), .raw (.int .i64 100000), .raw (.int .i64 200000), .raw (.int .i64 5000), .slo 0 2, .raw (.int .i64 50000), .raw (.int .i64 100000), .raw (.int .i64 1200), .raw (.int .i64 2), .raw (.int .i64 1), .slo 1 2], .raw (.agg #[.int .i64 1000, .int .i64 70000]), .raw (.int .i64 2946), .slo 2 1] (zq72) (.raw (.tuple #[.agg #[.int .i64 5000, .int .i64 64108], .int .i64 0])) (zq72) := by
  have hB := lnBall1 nm [50000, 40000, 6000, 500, 0, 30000, 100000, 6000, 500, 1] [100, 0, 0, 200, 5, -5] 2 2 71 39 100000 200000 5000 50000 100000 1200 2 1 0 (ex_check nm hnm hE) [5000, 70000, 2946] 1 26 1000 70000 2946 (by decide) (by decide)
  rw [show M.ball1E 0 1000 70000 2946 [5000, 70000, 2946] 1 = 0 by kernel_rfl] at hB
  have hsp := lnSpot 5000 5000 (100000 - 5000) (200000 - 5000) 1000 70000
  rw [show M.ySp 1000 5000 (100000 - 5000) = 5000 by kernel_rfl, show M.ySp 70000 5000 (200000 - 5000) = 70000 by kernel_rfl] at hsp
  have hha := lnHas 5000 5000 (100000 - 5000) (200000 - 5000) 5000 70000
  rw [show M.yHas 5000 5000 (100000 - 5000) (200000 - 5000) 5000 70000 = true by kernel_rfl] at hha
  have hnu := lnNum 5000 5000 (100000 - 5000) (200000 - 5000) 5000 70000 (by decide) (by decide)
  rw [show M.yNum 5000 5000 (100000 - 5000) (200000 - 5000) 5000 70000 = 495000 by kernel_rfl] at hnu
  have hhf := lnHalf 5000 5000 (100000 - 5000) (200000 - 5000) (by decide)
  rw [ex_half] at hhf
  have hpl : ∀ j : Int, 0 ≤ j → j < 2 * 280000 → chkDisc (M.yX 5000 5000 (100000 - 5000) (200000 - 5000) j) (M.yY 5000 5000 (100000 - 5000) (200000 - 5000) j) 2946 = 0 := fun j h0 h1 => by
    have := M.y_in (lx := 5000) (ly := 5000) (hx := 100000 - 5000) (hy := 200000 - 5000) (j := j) (by decide) (by decide) ⟨h0, by rw [ex_half]; exact h1⟩
    exact chkDisc_fit (by decide) zo zo
  have hq2 : ∀ i : Nat, i < 1 → chkDisc (at' [5000, 70000, 2946] (i * 3)) (at' [5000, 70000, 2946] (i * 3 + 1)) (at' [5000, 70000, 2946] (i * 3 + 2)) = 0 := by decide +kernel
  rcases ptl_loop nm [50000, 40000, 6000, 500, 0, 30000, 100000, 6000, 500, 1] [100, 0, 0, 200, 5, -5] 2 2 71 39 100000 200000 5000 50000 100000 1200 2 1 [5000, 70000, 2946] 1 26 1000 70000 2946 (by decide) hB (by decide) 5000 70000 495000 280000 hsp hha hnu hhf (by decide) (by decide) (by decide) hq2 hpl with ⟨k, _⟩ | ⟨i, hi, hlt, k⟩
  · exfalso
    have k2 := List.all_eq_true.1 k 5892 (List.mem_range.2 (by decide))
    rw [ex_A _ (by decide)] at k2
    revert k2
    decide
  · have hi2 : i = 5892 := by
      rcases Nat.lt_trichotomy i 5892 with h | h | h
      · exfalso
        have a := ex_A i zo
        have b := ex_B i zo
        rw [decide_eq_true (by omega)] at a b
        rcases k with ⟨k1, _⟩ | ⟨_, k1, _⟩
        · rw [a] at k1; cases k1
        · rw [b] at k1; cases k1
      · exact h
      · exfalso
        have k1 := hlt 5892 h
        rw [ex_A _ (by decide)] at k1
        revert k1
        simp
    subst hi2
    have a := ex_A ((5892 : Nat) : Int) (by decide)
    rw [decide_eq_false (by decide)] at a
    rcases k with ⟨_, R⟩ | ⟨k1, _⟩
    · have h := put_one nm [50000, 40000, 6000, 500, 0, 30000, 100000, 6000, 500, 1] [100, 0, 0, 200, 5, -5] 2 2 71 39 100000 200000 5000 50000 100000 1200 2 1 [5000, 70000, 2946] 1 26 1000 70000 2946 (by decide) hB (by decide) 5000 70000 495000 280000 hsp hha hnu hhf (by decide) (by decide) (by decide) hq2 hpl 5892 R
      revert h; delta lwA lwC bkG bkI bkW bkP zq149 zq72 zq180 zq185 zq102 zq147 zq153 zq152 zq174 zq184 zq108 zq66 zq26 zq60 zq127 zq145 zq150 zq175 zq80 zq28 zq198 zq211 zq205; intro h
      rw [show M.yX 5000 5000 (100000 - 5000) (200000 - 5000) ((495000 + ((5892 : Nat) : Int)).tmod (2 * 280000)) = 5000 by kernel_rfl, show M.yY 5000 5000 (100000 - 5000) (200000 - 5000) ((495000 + ((5892 : Nat) : Int)).tmod (2 * 280000)) = 64108 by kernel_rfl, ex_mix, ex_ints] at h
      exact h
    · rw [a] at k1; cases k1
end Go.Proofs.Ytmelbcmfahcffaa
end
section
namespace Go.Proofs.Ytmelbcmfahcffaa
open Go Go.RowKit Go.Proofs.Ytmelbcmfahcffaa.E2
def M.plE (lx ly hx hy j : Int) : Int := if j < 0 then 3 else if 2 * M.yHalf lx ly hx hy ≤ j then 3 else 0
def M.plX (lx ly hx hy j : Int) : Int := if M.plE lx ly hx hy j = 0 then M.yX lx ly hx hy j else 0
def M.plY (lx ly hx hy j : Int) : Int := if M.plE lx ly hx hy j = 0 then M.yY lx ly hx hy j else 0
def M.nuE (lx ly hx hy u v : Int) : Int := if ¬ M.ptE u v = 0 then M.ptE u v else if M.yHas lx ly hx hy u v = false then 5 else 0
def M.nuV (lx ly hx hy u v : Int) : Int := if M.nuE lx ly hx hy u v = 0 then M.yNum lx ly hx hy u v else 0
def M.spX (lx hx u v : Int) : Int := if M.ptE u v = 0 then M.ySp u lx hx else 0
def M.spY (ly hy u v : Int) : Int := if M.ptE u v = 0 then M.ySp v ly hy else 0
def M.spI (lx ly hx hy u v : Int) : Bool := decide (M.ptE u v = 0) && !(decide (M.ySp u lx hx = u) && decide (M.ySp v ly hy = v))
theorem M.lawn_sides {nm : ByteArray} {gs cs : List Int} {n k : Nat} {w g y a b r p q : Int} (h : M.lawnE nm gs cs n k w g y a b r p q = 0) : (65536 ≤ w ∧ w ≤ 4194304) ∧ (65536 ≤ g ∧ g ≤ 4194304) ∧ (0 ≤ y ∧ y ≤ 1048576) ∧ 2 * y ≤ w - 2 ∧ 2 * y ≤ g - 2 := by
  have h1 := (M.lawn_ok h).2.1
  unfold M.sidesB at h1
  simp only [Bool.and_eq_true, M.btw_iff] at h1
  obtain ⟨⟨h2, h3⟩, h4⟩ := h1
  rw [Int.tdiv_eq_ediv_of_nonneg (by omega)] at h4
  omega
theorem M.at_facts {lx ly hx hy j : Int} (h1 : 0 ≤ lx ∧ lx + 1 ≤ hx ∧ hx ≤ 4194304) (h2 : 0 ≤ ly ∧ ly + 1 ≤ hy ∧ hy ≤ 4194304) (hj : M.plE lx ly hx hy j = 0) :
    M.nuE lx ly hx hy (M.plX lx ly hx hy j) (M.plY lx ly hx hy j) = 0 ∧ M.nuV lx ly hx hy (M.plX lx ly hx hy j) (M.plY lx ly hx hy j) = j ∧ M.ptE (M.plX lx ly hx hy j) (M.plY lx ly hx hy j) = 0 ∧ M.spX lx hx (M.plX lx ly hx hy j) (M.plY lx ly hx hy j) = M.plX lx ly hx hy j ∧ M.spY ly hy (M.plX lx ly hx hy j) (M.plY lx ly hx hy j) = M.plY lx ly hx hy j ∧ M.spI lx ly hx hy (M.plX lx ly hx hy j) (M.plY lx ly hx hy j) = false := by
  have hjj : 0 ≤ j ∧ j < 2 * M.yHalf lx ly hx hy := by
    unfold M.plE at hj
    split at hj
    · omega
    · split at hj
      · omega
      · omega
  have e1 : M.plX lx ly hx hy j = M.yX lx ly hx hy j := by unfold M.plX; rw [if_pos hj]
  have e2 : M.plY lx ly hx hy j = M.yY lx ly hx hy j := by unfold M.plY; rw [if_pos hj]
  have hin := M.y_in (j := j) (lx := lx) (ly := ly) (hx := hx) (hy := hy) zo zo hjj
  rw [e1, e2]
  have kh : M.yHalf lx ly hx hy = hx - lx + (hy - ly) := rfl
  have hp : M.ptE (M.yX lx ly hx hy j) (M.yY lx ly hx hy j) = 0 := M.pt_iff.2 zo
  have key : (M.yX lx ly hx hy j = lx ∨ M.yX lx ly hx hy j = hx ∨ M.yY lx ly hx hy j = ly ∨ M.yY lx ly hx hy j = hy) ∧ (lx ≤ M.yX lx ly hx hy j ∧ M.yX lx ly hx hy j ≤ hx) ∧ (ly ≤ M.yY lx ly hx hy j ∧ M.yY lx ly hx hy j ≤ hy) ∧ M.yNum lx ly hx hy (M.yX lx ly hx hy j) (M.yY lx ly hx hy j) = j := by
    unfold M.yNum
    by_cases c1 : j < hx - lx
    · have a : M.yX lx ly hx hy j = lx + j := by unfold M.yX; rw [if_pos c1]
      have b : M.yY lx ly hx hy j = ly := by unfold M.yY; rw [if_pos c1]
      rw [a, b]
      refine ⟨by omega, by omega, by omega, ?_⟩
      (repeat split) <;> omega
    by_cases c2 : j < M.yHalf lx ly hx hy
    · have a : M.yX lx ly hx hy j = hx := by unfold M.yX; rw [if_neg c1, if_pos c2]
      have b : M.yY lx ly hx hy j = ly + j - (hx - lx) := by unfold M.yY; rw [if_neg c1, if_pos c2]
      rw [a, b]
      refine ⟨by omega, by omega, by omega, ?_⟩
      (repeat split) <;> omega
    by_cases c3 : j < M.yHalf lx ly hx hy + (hx - lx)
    · have a : M.yX lx ly hx hy j = hx - (j - M.yHalf lx ly hx hy) := by unfold M.yX; rw [if_neg c1, if_neg c2, if_pos c3]
      have b : M.yY lx ly hx hy j = hy := by unfold M.yY; rw [if_neg c1, if_neg c2, if_pos c3]
      rw [a, b]
      refine ⟨by omega, by omega, by omega, ?_⟩
      (repeat split) <;> omega
    · have a : M.yX lx ly hx hy j = lx := by unfold M.yX; rw [if_neg c1, if_neg c2, if_neg c3]
      have b : M.yY lx ly hx hy j = hy - (j - M.yHalf lx ly hx hy - (hx - lx)) := by unfold M.yY; rw [if_neg c1, if_neg c2, if_neg c3]
      rw [a, b]
      refine ⟨by omega, by omega, by omega, ?_⟩
      (repeat split) <;> omega
  obtain ⟨k1, k2, k3, k4⟩ := key
  have s1 : M.ySp (M.yX lx ly hx hy j) lx hx = M.yX lx ly hx hy j := by unfold M.ySp; omega
  have s2 : M.ySp (M.yY lx ly hx hy j) ly hy = M.yY lx ly hx hy j := by unfold M.ySp; omega
  have hh : M.yHas lx ly hx hy (M.yX lx ly hx hy j) (M.yY lx ly hx hy j) = true := by
    unfold M.yHas
    rw [s1, s2]
    simp only [decide_true, Bool.and_self, Bool.and_true, Bool.or_eq_true, decide_eq_true_eq]
    omega
  have hn : M.nuE lx ly hx hy (M.yX lx ly hx hy j) (M.yY lx ly hx hy j) = 0 := by unfold M.nuE; rw [if_neg (by simp [hp]), hh]; rfl
  refine ⟨hn, ?_, hp, ?_, ?_, ?_⟩
  · unfold M.nuV; rw [if_pos hn]; exact k4
  · unfold M.spX; rw [if_pos hp]; exact s1
  · unfold M.spY; rw [if_pos hp]; exact s2
  · unfold M.spI; rw [s1, s2]; simp
end Go.Proofs.Ytmelbcmfahcffaa
end
section
namespace Go.Proofs.Ytmelbcmfahcffaa
open Go Go.RowKit Go.Proofs.Ytmelbcmfahcffaa.E2
variable (nm : ByteArray) (gs cs : List Int) (n k : Nat) (T U : Nat) (w g y a b r p q : Int)
theorem specS {a b a' b' e e' : Int} {i i' : Bool} (h1 : a = a') (h2 : b = b') (h3 : i = i') (h4 : e = e') : (V.raw (.tuple #[.agg #[.int .i64 a, .int .i64 b], .bool i, .int .i64 e])) = .raw (.tuple #[.agg #[.int .i64 a', .int .i64 b'], .bool i', .int .i64 e']) := by rw [h1, h2, h3, h4]
abbrev zq71 (nm : ByteArray) (w : Int) (g : Int) (y : Int) (n : Nat) (a : Int) (b : Int) (r : Int) (p : Int) (q : Int) (k : Nat) (gs : List Int) (T : Nat) (cs : List Int) (U : Nat) (u : Int) (v : Int) (E : Int) : Prop := Meets cfx 0 45 [lwA nm w g y n a b r p q k] [bkG gs T, bkI cs U, bkW nm w g y n a b r p q k, bkP u v, bkP 0 0, bkW nm w g y n a b r p q k, bkP u v] (iV E) [bkG gs T, bkI cs U, bkW nm w g y n a b r p q k, bkP u v, bkP 0 0, bkW nm w g y n a b r p q k, bkP u v]
abbrev zq123 (gs : List Int) (T : Nat) (cs : List Int) (U : Nat) (nm : ByteArray) (w : Int) (g : Int) (y : Int) (n : Nat) (a : Int) (b : Int) (r : Int) (p : Int) (q : Int) (k : Nat) (u : Int) (v : Int) : Heap := [bkG gs T, bkI cs U, bkW nm w g y n a b r p q k, bkP u v, bkP 0 0, bkW nm w g y n a b r p q k, bkP u v]
abbrev zq146 (w : Int) (y : Int) (u : Int) (g : Int) (v : Int) : List V := [iV (if (if w - y < u then w - y else u) > y then if w - y < u then w - y else u else y), iV (if (if g - y < v then g - y else v) > y then if g - y < v then g - y else v else y)]
abbrev zq179 (u : Int) (v : Int) : Prop := Ret cfx 74 [V.raw (.agg { toList := [.int .i64 u, .int .i64 v] })] (V.raw (.bool (decide (M.ptE u v = 0))))
abbrev zq183 (nm : ByteArray) (w : Int) (g : Int) (y : Int) (n : Nat) (a : Int) (b : Int) (r : Int) (p : Int) (q : Int) (k : Nat) (gs : List Int) (T : Nat) (cs : List Int) (U : Nat) (E : Int) : Prop := Meets cfx 0 45 [lwA nm w g y n a b r p q k] [bkG gs T, bkI cs U] (.raw (.int .i64 E)) [bkG gs T, bkI cs U]
theorem rnSpotP_ok_1 (E : Int) (hC : (zq183 nm w g y n a b r p q k gs T cs U E)) (u v : Int) (hw : (65536 ≤ w ∧ w ≤ 4194304) ∧ (65536 ≤ g ∧ g ≤ 4194304) ∧ (0 ≤ y ∧ y ≤ 1048576) ∧ 2 * y ≤ w - 2 ∧ 2 * y ≤ g - 2) (hE : E = 0) (hP : M.ptE u v = 0) (hP2 : (-4194304 ≤ u ∧ u ≤ 4194304) ∧ (-4194304 ≤ v ∧ v ≤ 4194304))  : Meets cfx 0 21 [lwA nm w g y n a b r p q k, .raw (.agg #[.int .i64 u, .int .i64 v])] [bkG gs T, bkI cs U] (V.raw (.tuple { toList := [.agg { toList := [.int .i64 (if (if w - y < u then w - y else u) > y then if w - y < u then w - y else u else y), .int .i64 (if (if g - y < v then g - y else v) > y then if g - y < v then g - y else v else y)] }, .bool !(decide ((if (if w - y < u then w - y else u) > y then if w - y < u then w - y else u else y) = u) && (decide ((if (if g - y < v then g - y else v) > y then if g - y < v then g - y else v else y) = v) && true)), .int .i64 0] })) [bkG gs T, bkI cs U] := by
  refine Meets.post (meets_ev cfx_mixed cfx_call zz zb (n := 40) (ans := [Ans.go, Ans.go, Ans.reth (iV E) (zq123 gs T cs U nm w g y n a b r p q k u v), zF, Ans.ret (V.raw (.bool (decide (M.ptE u v = 0)))), zF, zF, Ans.go, Ans.olds [(4, 18)]]) (v := V.raw (.tuple { toList := [.agg { toList := [.int .i64 (if (if w - y < u then w - y else u) > y then if w - y < u then w - y else u else y), .int .i64 (if (if g - y < v then g - y else v) > y then if g - y < v then g - y else v else y)] }, .bool !(decide ((if (if w - y < u then w - y else u) > y then if w - y < u then w - y else u else y) = u) && (decide ((if (if g - y < v then g - y else v) > y then if g - y < v then g - y else v else y) = v) && true)), .int .i64 0] })) (h' := [bkG gs T, bkI cs U, bkW nm w g y n a b r p q k, bkP u v, some (.cells (zq146 w y u g v) 24 .rw), bkW nm w g y n a b r p q k, bkP u v, bkW nm w g y n a b r p q k, bkP u v, some (.cells (zq146 w y u g v) 24 .rw), some (.cells (zq146 w y u g v) 24 .rw), some (.cells (zq146 w y u g v) 24 .rw)]) (cons := [((zq71 nm w g y n a b r p q k gs T cs U u v E)), ((!decide (E = 0)) = false), ((zq179 u v)), ((!decide (M.ptE u v = 0)) = false), (false = false), (inR IntKind.i64 (w - y)), (inR IntKind.i64 (g - y))]) zk
    ⟨(by exact below2 (lim := 0) rfl rfl 0 1 (N := []) hC (mix_all _ _) (ints_all _) rfl (fun k X h => by simp at h) rfl rfl zz), zdf, (rnPointE _ _), zdf, rfl, inR_i64 zo zo, inR_i64 zo zo, trivial⟩) zk zt0
theorem rnSpotP_ok (E : Int) (hC : (zq183 nm w g y n a b r p q k gs T cs U E)) (u v : Int) (hw : (65536 ≤ w ∧ w ≤ 4194304) ∧ (65536 ≤ g ∧ g ≤ 4194304) ∧ (0 ≤ y ∧ y ≤ 1048576) ∧ 2 * y ≤ w - 2 ∧ 2 * y ≤ g - 2) (hE : E = 0) (hP : M.ptE u v = 0) (hP2 : (-4194304 ≤ u ∧ u ≤ 4194304) ∧ (-4194304 ≤ v ∧ v ≤ 4194304)) : Meets cfx 0 21 [lwA nm w g y n a b r p q k, .raw (.agg #[.int .i64 u, .int .i64 v])] [bkG gs T, bkI cs U] (.raw (.tuple #[.agg #[.int .i64 (M.ySp u y (w - y)), .int .i64 (M.ySp v y (g - y))], .bool (!(decide ((M.ySp u y (w - y)) = u) && decide ((M.ySp v y (g - y)) = v))), .int .i64 0])) [bkG gs T, bkI cs U] := by
  have e : (.raw (.tuple #[.agg #[.int .i64 (M.ySp u y (w - y)), .int .i64 (M.ySp v y (g - y))], .bool (!(decide ((M.ySp u y (w - y)) = u) && decide ((M.ySp v y (g - y)) = v))), .int .i64 0]) : V) = V.raw (.tuple { toList := [.agg { toList := [.int .i64 (if (if w - y < u then w - y else u) > y then if w - y < u then w - y else u else y), .int .i64 (if (if g - y < v then g - y else v) > y then if g - y < v then g - y else v else y)] }, .bool !(decide ((if (if w - y < u then w - y else u) > y then if w - y < u then w - y else u else y) = u) && (decide ((if (if g - y < v then g - y else v) > y then if g - y < v then g - y else v else y) = v) && true)), .int .i64 0] }) := by (apply specS <;> first | rfl | (unfold M.ySp; omega) | (unfold M.ySp; rw [Bool.eq_iff_iff]; simp only [Bool.not_eq_true', Bool.and_eq_false_iff, decide_eq_false_iff_not, Bool.and_true, Bool.and_eq_true]; omega))
  rw [e]
  exact rnSpotP_ok_1 nm gs cs n k T U w g y a b r p q E hC u v hw hE hP hP2
end Go.Proofs.Ytmelbcmfahcffaa
end
section
namespace Go.Proofs.Ytmelbcmfahcffaa
open Go Go.RowKit Go.Proofs.Ytmelbcmfahcffaa.E2
def M.liV (w g y u v : Int) : Int := if ((u = y ∨ u = w - y ∨ v = y ∨ v = g - y) ∧ (y ≤ u ∧ u ≤ w - y) ∧ (y ≤ v ∧ v ≤ g - y)) then M.yNum y y (w - y) (g - y) u v else -1
end Go.Proofs.Ytmelbcmfahcffaa
end
section
namespace Go.Proofs.Ytmelbcmfahcffaa
open Go Go.RowKit Go.Proofs.Ytmelbcmfahcffaa.E2
variable (nm : ByteArray) (gs cs : List Int) (n k : Nat) (T U : Nat) (w g y a b r p q : Int)
theorem rnPlc_1 (hw : (65536 ≤ w ∧ w ≤ 4194304) ∧ (65536 ≤ g ∧ g ≤ 4194304) ∧ (0 ≤ y ∧ y ≤ 1048576) ∧ 2 * y ≤ w - 2 ∧ 2 * y ≤ g - 2)  : Meets cfx 0 49 [lwA nm w g y n a b r p q k] [bkG gs T, bkI cs U] (iV (2 * (w - 2 * y + (g - 2 * y)))) [bkG gs T, bkI cs U] := by
  refine Meets.post (meets_ev cfx_mixed cfx_call zz zb (n := 40) (ans := [Ans.go, Ans.go, Ans.olds []]) (v := (iV (2 * (w - 2 * y + (g - 2 * y))))) (h' := [bkG gs T, bkI cs U, bkW nm w g y n a b r p q k, bkW nm w g y n a b r p q k]) (cons := [(inR IntKind.i64 (2 * y)), (inR IntKind.i64 (w - 2 * y)), (inR IntKind.i64 (2 * y)), (inR IntKind.i64 (g - 2 * y)), (inR IntKind.i64 (w - 2 * y + (g - 2 * y))), (inR IntKind.i64 (2 * (w - 2 * y + (g - 2 * y))))]) zk
    ⟨inR_i64 zo zo, inR_i64 zo zo, inR_i64 zo zo, inR_i64 zo zo, inR_i64 zo zo, inR_i64 zo zo, trivial⟩) zk zt0
theorem rnPlc (hw : (65536 ≤ w ∧ w ≤ 4194304) ∧ (65536 ≤ g ∧ g ≤ 4194304) ∧ (0 ≤ y ∧ y ≤ 1048576) ∧ 2 * y ≤ w - 2 ∧ 2 * y ≤ g - 2) : Meets cfx 0 49 [lwA nm w g y n a b r p q k] [bkG gs T, bkI cs U] (.raw (.int .i64 (2 * M.yHalf y y (w - y) (g - y)))) [bkG gs T, bkI cs U] := by
  have e : (.raw (.int .i64 (2 * M.yHalf y y (w - y) (g - y))) : V) = (iV (2 * (w - 2 * y + (g - 2 * y)))) := by (congr 2; unfold M.yHalf; omega)
  rw [e]
  exact rnPlc_1 nm gs cs n k T U w g y a b r p q hw
theorem rnAtP_1 (j : Int) (hw : (65536 ≤ w ∧ w ≤ 4194304) ∧ (65536 ≤ g ∧ g ≤ 4194304) ∧ (0 ≤ y ∧ y ≤ 1048576) ∧ 2 * y ≤ w - 2 ∧ 2 * y ≤ g - 2) (hj : 0 ≤ j ∧ j ≤ 16777216) (f0 : j < w - 2 * y) : Meets cfx 0 50 [lwA nm w g y n a b r p q k, .raw (.int .i64 j)] [bkG gs T, bkI cs U] (V.raw (.agg { toList := [.int .i64 (y + j), .int .i64 y] })) [bkG gs T, bkI cs U] := by
  refine Meets.post (meets_ev cfx_mixed cfx_call zz zb (n := 40) (ans := [Ans.go, Ans.go, Ans.olds [], zT]) (v := V.raw (.agg { toList := [.int .i64 (y + j), .int .i64 y] })) (h' := [bkG gs T, bkI cs U, bkW nm w g y n a b r p q k, bkP (y + j) y, bkW nm w g y n a b r p q k]) (cons := [(inR IntKind.i64 (2 * y)), (inR IntKind.i64 (w - 2 * y)), (inR IntKind.i64 (2 * y)), (inR IntKind.i64 (g - 2 * y)), (decide (j < w - 2 * y) = true), (inR IntKind.i64 (y + j))]) zk
    ⟨inR_i64 zo zo, inR_i64 zo zo, inR_i64 zo zo, inR_i64 zo zo, zdo, inR_i64 zo zo, trivial⟩) zk zt0
theorem rnAtP_2 (j : Int) (hw : (65536 ≤ w ∧ w ≤ 4194304) ∧ (65536 ≤ g ∧ g ≤ 4194304) ∧ (0 ≤ y ∧ y ≤ 1048576) ∧ 2 * y ≤ w - 2 ∧ 2 * y ≤ g - 2) (hj : 0 ≤ j ∧ j ≤ 16777216) (f0 : ¬j < w - 2 * y) (f1 : j < w - 2 * y + (g - 2 * y)) : Meets cfx 0 50 [lwA nm w g y n a b r p q k, .raw (.int .i64 j)] [bkG gs T, bkI cs U] (V.raw (.agg { toList := [.int .i64 (w - y), .int .i64 (y + j - (w - 2 * y))] })) [bkG gs T, bkI cs U] := by
  refine Meets.post (meets_ev cfx_mixed cfx_call zz zb (n := 40) (ans := [Ans.go, Ans.go, Ans.olds [], zF, zT]) (v := V.raw (.agg { toList := [.int .i64 (w - y), .int .i64 (y + j - (w - 2 * y))] })) (h' := [bkG gs T, bkI cs U, bkW nm w g y n a b r p q k, some (.cells [iV (w - y), iV (y + j - (w - 2 * y))] 24 .rw), bkW nm w g y n a b r p q k]) (cons := [(inR IntKind.i64 (2 * y)), (inR IntKind.i64 (w - 2 * y)), (inR IntKind.i64 (2 * y)), (inR IntKind.i64 (g - 2 * y)), (decide (j < w - 2 * y) = false), (inR IntKind.i64 (w - 2 * y + (g - 2 * y))), (decide (j < w - 2 * y + (g - 2 * y)) = true), (inR IntKind.i64 (w - y)), (inR IntKind.i64 (y + j)), (inR IntKind.i64 (y + j - (w - 2 * y)))]) zk
    ⟨inR_i64 zo zo, inR_i64 zo zo, inR_i64 zo zo, inR_i64 zo zo, zdo, inR_i64 zo zo, zdo, inR_i64 zo zo, inR_i64 zo zo, inR_i64 zo zo, trivial⟩) zk zt0
theorem rnAtP_3 (j : Int) (hw : (65536 ≤ w ∧ w ≤ 4194304) ∧ (65536 ≤ g ∧ g ≤ 4194304) ∧ (0 ≤ y ∧ y ≤ 1048576) ∧ 2 * y ≤ w - 2 ∧ 2 * y ≤ g - 2) (hj : 0 ≤ j ∧ j ≤ 16777216) (f0 : ¬j < w - 2 * y) (f1 : ¬j < w - 2 * y + (g - 2 * y)) (f2 : j < 2 * (w - 2 * y) + (g - 2 * y)) : Meets cfx 0 50 [lwA nm w g y n a b r p q k, .raw (.int .i64 j)] [bkG gs T, bkI cs U] (V.raw (.agg { toList := [.int .i64 (w - y - (j - (w - 2 * y) - (g - 2 * y))), .int .i64 (g - y)] })) [bkG gs T, bkI cs U] := by
  refine Meets.post (meets_ev cfx_mixed cfx_call zz zb (n := 40) (ans := [Ans.go, Ans.go, Ans.olds [], zF, zF, zT]) (v := V.raw (.agg { toList := [.int .i64 (w - y - (j - (w - 2 * y) - (g - 2 * y))), .int .i64 (g - y)] })) (h' := [bkG gs T, bkI cs U, bkW nm w g y n a b r p q k, some (.cells [iV (w - y - (j - (w - 2 * y) - (g - 2 * y))), iV (g - y)] 24 .rw), bkW nm w g y n a b r p q k]) (cons := [(inR IntKind.i64 (2 * y)), (inR IntKind.i64 (w - 2 * y)), (inR IntKind.i64 (2 * y)), (inR IntKind.i64 (g - 2 * y)), (decide (j < w - 2 * y) = false), (inR IntKind.i64 (w - 2 * y + (g - 2 * y))), (decide (j < w - 2 * y + (g - 2 * y)) = false), (inR IntKind.i64 (2 * (w - 2 * y))), (inR IntKind.i64 (2 * (w - 2 * y) + (g - 2 * y))), (decide (j < 2 * (w - 2 * y) + (g - 2 * y)) = true), (inR IntKind.i64 (w - y)), (inR IntKind.i64 (j - (w - 2 * y))), (inR IntKind.i64 (j - (w - 2 * y) - (g - 2 * y))), (inR IntKind.i64 (w - y - (j - (w - 2 * y) - (g - 2 * y)))), (inR IntKind.i64 (g - y))]) zk
    ⟨inR_i64 zo zo, inR_i64 zo zo, inR_i64 zo zo, inR_i64 zo zo, zdo, inR_i64 zo zo, zdo, inR_i64 zo zo, inR_i64 zo zo, zdo, inR_i64 zo zo, inR_i64 zo zo, inR_i64 zo zo, inR_i64 zo zo, inR_i64 zo zo, trivial⟩) zk zt0
theorem rnAtP_4 (j : Int) (hw : (65536 ≤ w ∧ w ≤ 4194304) ∧ (65536 ≤ g ∧ g ≤ 4194304) ∧ (0 ≤ y ∧ y ≤ 1048576) ∧ 2 * y ≤ w - 2 ∧ 2 * y ≤ g - 2) (hj : 0 ≤ j ∧ j ≤ 16777216) (f0 : ¬j < w - 2 * y) (f1 : ¬j < w - 2 * y + (g - 2 * y)) (f2 : ¬j < 2 * (w - 2 * y) + (g - 2 * y)) : Meets cfx 0 50 [lwA nm w g y n a b r p q k, .raw (.int .i64 j)] [bkG gs T, bkI cs U] (V.raw (.agg { toList := [.int .i64 y, .int .i64 (g - y - (j - 2 * (w - 2 * y) - (g - 2 * y)))] })) [bkG gs T, bkI cs U] := by
  refine Meets.post (meets_ev cfx_mixed cfx_call zz zb (n := 40) (ans := [Ans.go, Ans.go, Ans.olds [], zF, zF, zF]) (v := V.raw (.agg { toList := [.int .i64 y, .int .i64 (g - y - (j - 2 * (w - 2 * y) - (g - 2 * y)))] })) (h' := [bkG gs T, bkI cs U, bkW nm w g y n a b r p q k, some (.cells [iV y, iV (g - y - (j - 2 * (w - 2 * y) - (g - 2 * y)))] 24 .rw), bkW nm w g y n a b r p q k]) (cons := [(inR IntKind.i64 (2 * y)), (inR IntKind.i64 (w - 2 * y)), (inR IntKind.i64 (2 * y)), (inR IntKind.i64 (g - 2 * y)), (decide (j < w - 2 * y) = false), (inR IntKind.i64 (w - 2 * y + (g - 2 * y))), (decide (j < w - 2 * y + (g - 2 * y)) = false), (inR IntKind.i64 (2 * (w - 2 * y))), (inR IntKind.i64 (2 * (w - 2 * y) + (g - 2 * y))), (decide (j < 2 * (w - 2 * y) + (g - 2 * y)) = false), (inR IntKind.i64 (g - y)), (inR IntKind.i64 (2 * (w - 2 * y))), (inR IntKind.i64 (j - 2 * (w - 2 * y))), (inR IntKind.i64 (j - 2 * (w - 2 * y) - (g - 2 * y))), (inR IntKind.i64 (g - y - (j - 2 * (w - 2 * y) - (g - 2 * y))))]) zk
    ⟨inR_i64 zo zo, inR_i64 zo zo, inR_i64 zo zo, inR_i64 zo zo, zdo, inR_i64 zo zo, zdo, inR_i64 zo zo, inR_i64 zo zo, zdo, inR_i64 zo zo, inR_i64 zo zo, inR_i64 zo zo, inR_i64 zo zo, inR_i64 zo zo, trivial⟩) zk zt0
theorem rnAtP (j : Int) (hw : (65536 ≤ w ∧ w ≤ 4194304) ∧ (65536 ≤ g ∧ g ≤ 4194304) ∧ (0 ≤ y ∧ y ≤ 1048576) ∧ 2 * y ≤ w - 2 ∧ 2 * y ≤ g - 2) (hj : 0 ≤ j ∧ j ≤ 16777216) : Meets cfx 0 50 [lwA nm w g y n a b r p q k, .raw (.int .i64 j)] [bkG gs T, bkI cs U] (.raw (.agg #[.int .i64 (M.yX y y (w - y) (g - y) j), .int .i64 (M.yY y y (w - y) (g - y) j)])) [bkG gs T, bkI cs U] := by
  by_cases f0 : j < w - 2 * y
  ·
    have e : (.raw (.agg #[.int .i64 (M.yX y y (w - y) (g - y) j), .int .i64 (M.yY y y (w - y) (g - y) j)]) : V) = V.raw (.agg { toList := [.int .i64 (y + j), .int .i64 y] }) := by (apply specP <;> first | rfl | (unfold M.yX M.yHalf; (repeat split) <;> omega) | (unfold M.yY M.yHalf; (repeat split) <;> omega))
    rw [e]
    exact rnAtP_1 nm gs cs n k T U w g y a b r p q j hw hj f0
  ·
    by_cases f1 : j < w - 2 * y + (g - 2 * y)
    ·
      have e : (.raw (.agg #[.int .i64 (M.yX y y (w - y) (g - y) j), .int .i64 (M.yY y y (w - y) (g - y) j)]) : V) = V.raw (.agg { toList := [.int .i64 (w - y), .int .i64 (y + j - (w - 2 * y))] }) := by (apply specP <;> first | rfl | (unfold M.yX M.yHalf; (repeat split) <;> omega) | (unfold M.yY M.yHalf; (repeat split) <;> omega))
      rw [e]
      exact rnAtP_2 nm gs cs n k T U w g y a b r p q j hw hj f0 f1
    ·
      by_cases f2 : j < 2 * (w - 2 * y) + (g - 2 * y)
      ·
        have e : (.raw (.agg #[.int .i64 (M.yX y y (w - y) (g - y) j), .int .i64 (M.yY y y (w - y) (g - y) j)]) : V) = V.raw (.agg { toList := [.int .i64 (w - y - (j - (w - 2 * y) - (g - 2 * y))), .int .i64 (g - y)] }) := by (apply specP <;> first | rfl | (unfold M.yX M.yHalf; (repeat split) <;> omega) | (unfold M.yY M.yHalf; (repeat split) <;> omega))
        rw [e]
        exact rnAtP_3 nm gs cs n k T U w g y a b r p q j hw hj f0 f1 f2
      ·
        have e : (.raw (.agg #[.int .i64 (M.yX y y (w - y) (g - y) j), .int .i64 (M.yY y y (w - y) (g - y) j)]) : V) = V.raw (.agg { toList := [.int .i64 y, .int .i64 (g - y - (j - 2 * (w - 2 * y) - (g - 2 * y)))] }) := by (apply specP <;> first | rfl | (unfold M.yX M.yHalf; (repeat split) <;> omega) | (unfold M.yY M.yHalf; (repeat split) <;> omega))
        rw [e]
        exact rnAtP_4 nm gs cs n k T U w g y a b r p q j hw hj f0 f1 f2
end Go.Proofs.Ytmelbcmfahcffaa
end
section
namespace Go.Proofs.Ytmelbcmfahcffaa
open Go Go.RowKit Go.Proofs.Ytmelbcmfahcffaa.E2
theorem rad2 {s t : Int} (hs : 1 ≤ s ∧ s ≤ 16384) (ht : 1 ≤ t ∧ t ≤ 16384) : (-20000000 ≤ s + t ∧ s + t ≤ 20000000) ∧ (0 ≤ (s + t) * (s + t) ∧ (s + t) * (s + t) ≤ 400000000000000) := by
  have h3 := M.mul_bd (s + t) (s + t) 32768 32768 zo zo zo zo
  have h4 : 0 ≤ (s + t) * (s + t) := Int.mul_nonneg zo zo
  omega
end Go.Proofs.Ytmelbcmfahcffaa
end
section
namespace Go.Proofs.Ytmelbcmfahcffaa
open Go Go.RowKit Go.Proofs.Ytmelbcmfahcffaa.E2
theorem lwSqrE (x y u v : Int) (p1 : 0 ≤ (x - u) * (x - u) ∧ (x - u) * (x - u) ≤ 281474976710656) (p2 : 0 ≤ (y - v) * (y - v) ∧ (y - v) * (y - v) ≤ 281474976710656) (h1 : (-8388608 ≤ x ∧ x ≤ 8388608) ∧ (-8388608 ≤ y ∧ y ≤ 8388608)) (h2 : (-8388608 ≤ u ∧ u ≤ 8388608) ∧ (-8388608 ≤ v ∧ v ≤ 8388608))  : Ret cfx 47 [.raw (.agg #[.int .i64 x, .int .i64 y]), .raw (.agg #[.int .i64 u, .int .i64 v])] (iV ((x - u) * (x - u) + (y - v) * (y - v))) := by
  exact fn_of cfx_mixed cfx_call cfx_base.1 cfx_base.2.1 cfx_base.2.2 (n := 40) (ans := [Ans.go]) (cons := [(inR IntKind.i64 (x - u)), (inR IntKind.i64 (x - u)), (inR IntKind.i64 ((x - u) * (x - u))), (inR IntKind.i64 (y - v)), (inR IntKind.i64 (y - v)), (inR IntKind.i64 ((y - v) * (y - v))), (inR IntKind.i64 ((x - u) * (x - u) + (y - v) * (y - v)))]) zk rfl rfl
    ⟨inR_i64 zo zo, inR_i64 zo zo, inR_i64 zo zo, inR_i64 zo zo, inR_i64 zo zo, inR_i64 zo zo, inR_i64 zo zo, trivial⟩
theorem lwSqr {x y u v : Int} (h1 : M.okP x y) (h2 : M.okP u v) : Ret cfx 47 [.raw (.agg #[.int .i64 x, .int .i64 y]), .raw (.agg #[.int .i64 u, .int .i64 v])] (.raw (.int .i64 (M.sq x y u v))) := by
  have a1 := h1
  have a2 := h2
  unfold M.okP at a1 a2
  have e : M.sq x y u v = (x - u) * (x - u) + (y - v) * (y - v) := by
    unfold M.sq
    rw [show u - x = -(x - u) by omega, show v - y = -(y - v) by omega, Int.neg_mul_neg, Int.neg_mul_neg]
  rw [e]
  have m1 := M.mul_bd (x - u) (x - u) 16777216 16777216 zo zo zo zo
  have m2 := M.mul_bd (y - v) (y - v) 16777216 16777216 zo zo zo zo
  exact lwSqrE x y u v ⟨M.sq_nonneg _, by omega⟩ ⟨M.sq_nonneg _, by omega⟩ a1 a2
end Go.Proofs.Ytmelbcmfahcffaa
end
section
namespace Go.Proofs.Ytmelbcmfahcffaa
open Go Go.RowKit Go.Proofs.Ytmelbcmfahcffaa.E2
abbrev zq92 (u : Int) (v : Int) (s : Int) (m : Nat) (i : Int) : List V := (catV [V.raw (.agg { toList := [.int .i64 u, .int .i64 v] }), iV s, .slo 0 m, .ptr 1 0, uV, uV, V.raw (.bool false), iV i] (anyR 8 25 []))
def clr_T (os : List Int) (m : Nat) (W : Nat) (u v s : Int) (i : Int) : List V := (zq92 u v s m i)
def clr_H (os : List Int) (m : Nat) (W : Nat) (u v s : Int) (i : Int) : Heap := [bkI os W, bkP u v]
def clr_T1 (os : List Int) (m : Nat) (W : Nat) (u v s : Int) (i : Int) : List V := (zq92 u v s m i)
def clr_H1 (os : List Int) (m : Nat) (W : Nat) (u v s : Int) (i : Int) : Heap := [bkI os W, bkP u v]
abbrev zq120 (u : Int) (v : Int) (os : List Int) (i : Int) : Prop := Ret cfx 47 [V.raw (.agg { toList := [.int .i64 u, .int .i64 v] }), V.raw (.agg { toList := [.int .i64 (at' os (i.toNat * 3)), .int .i64 (at' os (i.toNat * 3 + 1))] })] (iV (M.sq u v (at' os (i.toNat * 3)) (at' os (i.toNat * 3 + 1))))
theorem clr_1 (os : List Int) (m : Nat) (W : Nat) (u v s : Int) (hz : m * 3 ≤ os.length) (hm : m ≤ 1000) (hd : M.okP u v) (i : Int) (hi1 : 0 ≤ i) (hq : i < ↑m → M.okP (at' os (i.toNat * 3)) (at' os (i.toNat * 3 + 1))) (hrr : i < ↑m → ((-20000000 ≤ (s + at' os (i.toNat * 3 + 2)) ∧ (s + at' os (i.toNat * 3 + 2)) ≤ 20000000) ∧ (0 ≤ (s + at' os (i.toNat * 3 + 2)) * (s + at' os (i.toNat * 3 + 2)) ∧ (s + at' os (i.toNat * 3 + 2)) * (s + at' os (i.toNat * 3 + 2)) ≤ 400000000000000))) (f0 : i < (m : Int)) (f1 : M.sq u v (at' os (i.toNat * 3)) (at' os (i.toNat * 3 + 1)) < (s + at' os (i.toNat * 3 + 2)) * (s + at' os (i.toNat * 3 + 2))) : Runs cfx 0 2 none (loopOf cfx.P 48 0) (clr_T os m W u v s i) (clr_H os m W u v s i) (Ex.ret) (clr_T1 os m W u v s i) (clr_H1 os m W u v s i) := by
  refine Runs.post (t1 := [V.raw (.agg { toList := [.int .i64 u, .int .i64 v] }), iV s, .slo 0 m, .ptr 1 0, uV, uV, V.raw (.bool false), iV i, iV (s + at' os (i.toNat * 3 + 2)), iV i, .slo 0 m, iV (m : Int), V.raw (.bool (decide (i < (m : Int)))), .any 13, .any 14, iV s, .slo 0 m, iV i, V.ptr 0 (i.toNat * 3), V.ptr 0 (i.toNat * 3 + 2), iV (at' os (i.toNat * 3 + 2)), iV (s + at' os (i.toNat * 3 + 2)), V.raw (.agg { toList := [.int .i64 u, .int .i64 v] }), .slo 0 m, iV i, V.ptr 0 (i.toNat * 3), V.ptr 0 (i.toNat * 3), (rowV os (i.toNat * 3) 2), iV (M.sq u v (at' os (i.toNat * 3)) (at' os (i.toNat * 3 + 1))), iV (s + at' os (i.toNat * 3 + 2)), iV (s + at' os (i.toNat * 3 + 2)), iV ((s + at' os (i.toNat * 3 + 2)) * (s + at' os (i.toNat * 3 + 2))), V.raw (.bool (decide (M.sq u v (at' os (i.toNat * 3)) (at' os (i.toNat * 3 + 1)) < (s + at' os (i.toNat * 3 + 2)) * (s + at' os (i.toNat * 3 + 2)))))]) (h1 := [bkI os W, bkP u v]) (body_of cfx_mixed cfx_call zz (rnd := none) (fi := 0) (k := 0) (n := 40) (n0 := 2) (ans := [zT, Ans.val 0 (iV (at' os (i.toNat * 3 + 2))), Ans.olds [], Ans.val 0 ((rowV os (i.toNat * 3) 2)), Ans.ret (iV (M.sq u v (at' os (i.toNat * 3)) (at' os (i.toNat * 3 + 1)))), zT]) (cons := [(decide (i < (m : Int)) = true), (0 ≤ i ∧ i < (m : Int)), (loadRow cfx 2 (ints os) (i.toNat * 3 + 2) = some (iV (at' os (i.toNat * 3 + 2)))), (inR IntKind.i64 (s + at' os (i.toNat * 3 + 2))), (0 ≤ i ∧ i < (m : Int)), (loadRow cfx 24 (ints os) (i.toNat * 3) = some ((rowV os (i.toNat * 3) 2))), ((zq120 u v os i)), (inR IntKind.i64 ((s + at' os (i.toNat * 3 + 2)) * (s + at' os (i.toNat * 3 + 2)))), (decide (M.sq u v (at' os (i.toNat * 3)) (at' os (i.toNat * 3 + 1)) < (s + at' os (i.toNat * 3 + 2)) * (s + at' os (i.toNat * 3 + 2))) = true)]) zk
    ⟨zdo, zo, (load_one zk zo), inR_i64 zo zo, zo, (load_agg 2 zk zk zb zo), (lwSqr hd (hq zo)), inR_i64 zo zo, zdf, trivial⟩ zb zb noRnd (noRanges zk)) zt5
theorem clr_2 (os : List Int) (m : Nat) (W : Nat) (u v s : Int) (hz : m * 3 ≤ os.length) (hm : m ≤ 1000) (hd : M.okP u v) (i : Int) (hi1 : 0 ≤ i) (hq : i < ↑m → M.okP (at' os (i.toNat * 3)) (at' os (i.toNat * 3 + 1))) (hrr : i < ↑m → ((-20000000 ≤ (s + at' os (i.toNat * 3 + 2)) ∧ (s + at' os (i.toNat * 3 + 2)) ≤ 20000000) ∧ (0 ≤ (s + at' os (i.toNat * 3 + 2)) * (s + at' os (i.toNat * 3 + 2)) ∧ (s + at' os (i.toNat * 3 + 2)) * (s + at' os (i.toNat * 3 + 2)) ≤ 400000000000000))) (f0 : i < (m : Int)) (f1 : ¬M.sq u v (at' os (i.toNat * 3)) (at' os (i.toNat * 3 + 1)) < (s + at' os (i.toNat * 3 + 2)) * (s + at' os (i.toNat * 3 + 2))) : Runs cfx 0 2 none (loopOf cfx.P 48 0) (clr_T os m W u v s i) (clr_H os m W u v s i) (Ex.normal) (clr_T os m W u v s (i + 1)) (clr_H os m W u v s (i + 1)) := by
  refine Runs.post (t1 := [V.raw (.agg { toList := [.int .i64 u, .int .i64 v] }), iV s, .slo 0 m, .ptr 1 0, uV, uV, V.raw (.bool false), iV (i + 1), iV (s + at' os (i.toNat * 3 + 2)), iV i, .slo 0 m, iV (m : Int), V.raw (.bool (decide (i < (m : Int)))), iV i, iV (i + 1), iV s, .slo 0 m, iV i, V.ptr 0 (i.toNat * 3), V.ptr 0 (i.toNat * 3 + 2), iV (at' os (i.toNat * 3 + 2)), iV (s + at' os (i.toNat * 3 + 2)), V.raw (.agg { toList := [.int .i64 u, .int .i64 v] }), .slo 0 m, iV i, V.ptr 0 (i.toNat * 3), V.ptr 0 (i.toNat * 3), (rowV os (i.toNat * 3) 2), iV (M.sq u v (at' os (i.toNat * 3)) (at' os (i.toNat * 3 + 1))), iV (s + at' os (i.toNat * 3 + 2)), iV (s + at' os (i.toNat * 3 + 2)), iV ((s + at' os (i.toNat * 3 + 2)) * (s + at' os (i.toNat * 3 + 2))), V.raw (.bool (decide (M.sq u v (at' os (i.toNat * 3)) (at' os (i.toNat * 3 + 1)) < (s + at' os (i.toNat * 3 + 2)) * (s + at' os (i.toNat * 3 + 2)))))]) (h1 := [bkI os W, bkP u v]) (body_of cfx_mixed cfx_call zz (rnd := none) (fi := 0) (k := 0) (n := 40) (n0 := 2) (ans := [zT, Ans.val 0 (iV (at' os (i.toNat * 3 + 2))), Ans.olds [], Ans.val 0 ((rowV os (i.toNat * 3) 2)), Ans.ret (iV (M.sq u v (at' os (i.toNat * 3)) (at' os (i.toNat * 3 + 1)))), zF]) (cons := [(decide (i < (m : Int)) = true), (0 ≤ i ∧ i < (m : Int)), (loadRow cfx 2 (ints os) (i.toNat * 3 + 2) = some (iV (at' os (i.toNat * 3 + 2)))), (inR IntKind.i64 (s + at' os (i.toNat * 3 + 2))), (0 ≤ i ∧ i < (m : Int)), (loadRow cfx 24 (ints os) (i.toNat * 3) = some ((rowV os (i.toNat * 3) 2))), ((zq120 u v os i)), (inR IntKind.i64 ((s + at' os (i.toNat * 3 + 2)) * (s + at' os (i.toNat * 3 + 2)))), (decide (M.sq u v (at' os (i.toNat * 3)) (at' os (i.toNat * 3 + 1)) < (s + at' os (i.toNat * 3 + 2)) * (s + at' os (i.toNat * 3 + 2))) = false), (inR IntKind.i64 (i + 1))]) zk
    ⟨zdo, zo, (load_one zk zo), inR_i64 zo zo, zo, (load_agg 2 zk zk zb zo), (lwSqr hd (hq zo)), inR_i64 zo zo, zdf, inR_i64 zo zo, trivial⟩ zb zb noRnd (noRanges zk)) zt5
def clr_T3 (os : List Int) (m : Nat) (W : Nat) (u v s : Int) (i : Int) : List V := (zq92 u v s m i)
def clr_H3 (os : List Int) (m : Nat) (W : Nat) (u v s : Int) (i : Int) : Heap := [bkI os W, bkP u v]
theorem clr_3 (os : List Int) (m : Nat) (W : Nat) (u v s : Int) (hz : m * 3 ≤ os.length) (hm : m ≤ 1000) (hd : M.okP u v) (i : Int) (hi1 : 0 ≤ i) (hq : i < ↑m → M.okP (at' os (i.toNat * 3)) (at' os (i.toNat * 3 + 1))) (hrr : i < ↑m → ((-20000000 ≤ (s + at' os (i.toNat * 3 + 2)) ∧ (s + at' os (i.toNat * 3 + 2)) ≤ 20000000) ∧ (0 ≤ (s + at' os (i.toNat * 3 + 2)) * (s + at' os (i.toNat * 3 + 2)) ∧ (s + at' os (i.toNat * 3 + 2)) * (s + at' os (i.toNat * 3 + 2)) ≤ 400000000000000))) (f0 : ¬i < (m : Int)) : Runs cfx 0 2 none (loopOf cfx.P 48 0) (clr_T os m W u v s i) (clr_H os m W u v s i) (Ex.exit 0) (clr_T3 os m W u v s i) (clr_H3 os m W u v s i) := by
  refine Runs.post (t1 := (catV [V.raw (.agg { toList := [.int .i64 u, .int .i64 v] }), iV s, .slo 0 m, .ptr 1 0, uV, uV, V.raw (.bool false), iV i, .any 8, iV i, .slo 0 m, iV (m : Int), V.raw (.bool (decide (i < (m : Int))))] (anyR 13 20 []))) (h1 := [bkI os W, bkP u v]) (body_of cfx_mixed cfx_call zz (rnd := none) (fi := 0) (k := 0) (n := 40) (n0 := 2) (ans := [zF]) (cons := [(decide (i < (m : Int)) = false)]) zk
    ⟨zdo, trivial⟩ zb zb noRnd (noRanges zk)) zt5
end Go.Proofs.Ytmelbcmfahcffaa
end
section
namespace Go.Proofs.Ytmelbcmfahcffaa
open Go Go.RowKit Go.Proofs.Ytmelbcmfahcffaa.E2
theorem clr_loop (os : List Int) (m : Nat) (W : Nat) (u v s : Int) (hz : m * 3 ≤ os.length) (hm : m ≤ 1000) (hd : M.okP u v) (hq : ∀ i : Nat, i < m → M.okP (at' os (i * 3)) (at' os (i * 3 + 1)) ∧ 1 ≤ at' os (i * 3 + 2) ∧ at' os (i * 3 + 2) ≤ 16384) (hs : 1 ≤ s ∧ s ≤ 16384) : (M.tchA os m u v s = false ∧ Runs cfx 0 2 none (.loop (loopOf cfx.P 48 0)) (clr_T os m W u v s 0) (clr_H os m W u v s 0) (.exit 0) (clr_T3 os m W u v s m) (clr_H3 os m W u v s m)) ∨ (M.tchA os m u v s = true ∧ ∃ i : Nat, Runs cfx 0 2 none (.loop (loopOf cfx.P 48 0)) (clr_T os m W u v s 0) (clr_H os m W u v s 0) (.ret) (clr_T1 os m W u v s i) (clr_H1 os m W u v s i)) := by
  unfold M.tchA
  rcases upto_find (c := cfx) (lim := 0) (n0 := 2) (x := loopOf cfx.P 48 0) noRnd (fun i => !M.tchZ os u v s i) (fun i : Nat => clr_T os m W u v s i) (fun i : Nat => clr_H os m W u v s i) m (fun i : Nat => clr_T1 os m W u v s i) (fun i : Nat => clr_H1 os m W u v s i) (e := .exit 0) (e1 := .ret) (by simp) (by simp)
    (fun i hi hg => clr_2 os m W u v s hz hm hd i (by omega) (fun _ => by simp only [Int.toNat_natCast]; exact (hq i hi).1) (fun _ => by simp only [Int.toNat_natCast]; exact rad2 hs (hq i hi).2) (by omega) (fun h => by
      have e : M.tchZ os u v s i = true := M.overB_iff.2 (by simpa only [Int.toNat_natCast] using h)
      rw [e] at hg
      cases hg))
    (fun i hi hg => clr_1 os m W u v s hz hm hd i (by omega) (fun _ => by simp only [Int.toNat_natCast]; exact (hq i hi).1) (fun _ => by simp only [Int.toNat_natCast]; exact rad2 hs (hq i hi).2) (by omega) (by
      have e : M.tchZ os u v s i = true := by simpa using hg
      have := M.overB_iff.1 e
      simpa only [Int.toNat_natCast] using this))
    (clr_3 os m W u v s hz hm hd m zo (fun h => by omega) (fun h => by omega) zo) with ⟨h1, h2⟩ | ⟨h1, i, hi, h2, h3, h4⟩
  · exact .inl ⟨by rw [h1]; rfl, h2⟩
  · exact .inr ⟨by rw [h1]; rfl, i, h4⟩
abbrev zq90 (u : Int) (v : Int) (s : Int) (m : Nat) : List V := (catV [V.raw (.agg { toList := [.int .i64 u, .int .i64 v] }), iV s, .slo 0 m, .ptr 1 0, uV, uV, V.raw (.bool false), iV (m : Int)] (anyR 8 25 []))
abbrev zq130 (u : Int) (v : Int) (s : Int) (m : Nat) : List V := (catV [V.raw (.agg { toList := [.int .i64 u, .int .i64 v] }), iV s, .slo 0 m, .ptr 1 0, uV, uV, V.raw (.bool false), iV 0] (repU 25 []))
theorem clr_no (os : List Int) (m : Nat) (W : Nat) (u v s : Int) (hz : m * 3 ≤ os.length) (hm : m ≤ 1000) (hd : M.okP u v) (hR : Runs cfx 0 2 none (.loop (loopOf cfx.P 48 0)) (clr_T os m W u v s 0) (clr_H os m W u v s 0) (.exit 0) (clr_T3 os m W u v s m) (clr_H3 os m W u v s m))  : Meets cfx 0 48 [.raw (.agg #[.int .i64 u, .int .i64 v]), .raw (.int .i64 s), .slo 0 m] [bkI os W] (V.raw (.bool true)) [bkI os W] := by
  refine Meets.post (meets_ev cfx_mixed cfx_call zz zb (n := 40) (ans := [Ans.go, Ans.loop (Ex.exit 0) (zq90 u v s m) [bkI os W, bkP u v]]) (v := V.raw (.bool true)) (h' := [bkI os W, bkP u v]) (cons := [(Runs cfx 0 2 none (.loop (loopOf cfx.P 48 0)) (zq130 u v s m) [bkI os W, bkP u v] (Ex.exit 0) (zq90 u v s m) [bkI os W, bkP u v])]) zk
    ⟨(by
      refine Runs.pre (fun b e => by cases e) (fun RT RH => ?_) (hR)
      exact reshape2 (lim := 0) 2 (t := (zq130 u v s m)) (h := [bkI os W, bkP u v]) cfx_G rfl [] zk zk zdr RT RH), trivial⟩) zk zt2
abbrev zq91 (u : Int) (v : Int) (s : Int) (m : Nat) (i : Nat) : List V := (catV [V.raw (.agg { toList := [.int .i64 u, .int .i64 v] }), iV s, .slo 0 m, .ptr 1 0, uV, uV, V.raw (.bool false), iV (i : Int)] (anyR 8 25 []))
theorem clr_yes (os : List Int) (m : Nat) (W : Nat) (u v s : Int) (hz : m * 3 ≤ os.length) (hm : m ≤ 1000) (hd : M.okP u v) (i : Nat) (hR : Runs cfx 0 2 none (.loop (loopOf cfx.P 48 0)) (clr_T os m W u v s 0) (clr_H os m W u v s 0) (.ret) (clr_T1 os m W u v s i) (clr_H1 os m W u v s i))  : Meets cfx 0 48 [.raw (.agg #[.int .i64 u, .int .i64 v]), .raw (.int .i64 s), .slo 0 m] [bkI os W] (V.raw (.bool false)) [bkI os W] := by
  refine Meets.post (meets_ev cfx_mixed cfx_call zz zb (n := 40) (ans := [Ans.go, Ans.loop Ex.ret (zq91 u v s m i) [bkI os W, bkP u v]]) (v := V.raw (.bool false)) (h' := [bkI os W, bkP u v]) (cons := [(Runs cfx 0 2 none (.loop (loopOf cfx.P 48 0)) (zq130 u v s m) [bkI os W, bkP u v] (Ex.ret) (zq91 u v s m i) [bkI os W, bkP u v])]) zk
    ⟨(by
      refine Runs.pre (fun b e => by cases e) (fun RT RH => ?_) (hR)
      exact reshape2 (lim := 0) 2 (t := (zq130 u v s m)) (h := [bkI os W, bkP u v]) cfx_G rfl [] zk zk zdr RT RH), trivial⟩) zk zt2
theorem lwClear (os : List Int) (m : Nat) (W : Nat) (u v s : Int) (hz : m * 3 ≤ os.length) (hm : m ≤ 1000) (hd : M.okP u v) (hq : ∀ i : Nat, i < m → M.okP (at' os (i * 3)) (at' os (i * 3 + 1)) ∧ 1 ≤ at' os (i * 3 + 2) ∧ at' os (i * 3 + 2) ≤ 16384) (hs : 1 ≤ s ∧ s ≤ 16384) : Meets cfx 0 48 [.raw (.agg #[.int .i64 u, .int .i64 v]), .raw (.int .i64 s), .slo 0 m] [bkI os W] (.raw (.bool (!M.tchA os m u v s))) [bkI os W] := by
  rcases clr_loop os m W u v s hz hm hd hq hs with ⟨e, R⟩ | ⟨e, i, R⟩ <;> rw [e]
  · exact clr_no os m W u v s hz hm hd R
  · exact clr_yes os m W u v s hz hm hd i R
end Go.Proofs.Ytmelbcmfahcffaa
end
section
namespace Go.Proofs.Ytmelbcmfahcffaa
open Go Go.RowKit Go.Proofs.Ytmelbcmfahcffaa.E2
variable (nm : ByteArray) (gs cs : List Int) (n k : Nat) (T U : Nat) (w g y a b r p q : Int)
theorem lnSpot_e_1 (E : Int) (hC : (zq180 nm w g y n a b r p q k gs T cs U E)) (u v : Int) (hE : ¬ E = 0)  : Meets cfx 0 20 [lwA nm w g y n a b r p q k, .raw (.agg #[.int .i64 u, .int .i64 v])] [bkG gs T, bkI cs U] (V.raw (.tuple { toList := [.agg { toList := [.int .i64 0, .int .i64 0] }, .bool false, .int .i64 E] })) [bkG gs T, bkI cs U] := by
  refine Meets.post (meets_ev cfx_mixed cfx_call zz zb (n := 40) (ans := [Ans.go, Ans.olds [], Ans.reth (iV E) (zq156 gs T cs U nm w g y n a b r p q k u v), Ans.ret (iV (M.ptE u v)), Ans.go, zT, zT, zT]) (v := V.raw (.tuple { toList := [.agg { toList := [.int .i64 0, .int .i64 0] }, .bool false, .int .i64 E] })) (h' := [bkG gs T, bkI cs U, bkW nm w g y n a b r p q k, bkP u v, bkP 0 0, some (.cells [iV E, iV (M.ptE u v)] 33 (.row 1))]) (cons := [((zq94 nm w g y n a b r p q k gs T cs U u v E)), (Ret cfx 56 [V.raw (.agg { toList := [.int .i64 u, .int .i64 v] })] (iV (M.ptE u v))), (2 ≤ 9223372036854775807), (true = true), ((0 : Int) ≤ (0 : Int) ∧ (0 : Int) < (2 : Int)), ((!decide (E = 0)) = true), ((!decide (E = 0)) = true)]) zk
    ⟨(by exact below2 (lim := 0) rfl rfl 0 1 (N := []) hC (mix_all _ _) (ints_all _) rfl (fun k X h => by simp at h) rfl rfl zz), (lnPoint _ _), zds, rfl, zo, zdf, zdf, trivial⟩) zk zt0
theorem lnSpot_e (E : Int) (hC : (zq180 nm w g y n a b r p q k gs T cs U E)) (u v : Int) (hE : ¬ E = 0) : Meets cfx 0 20 [lwA nm w g y n a b r p q k, .raw (.agg #[.int .i64 u, .int .i64 v])] [bkG gs T, bkI cs U] (.raw (.tuple #[.agg #[.int .i64 0, .int .i64 0], .bool false, .int .i64 E])) [bkG gs T, bkI cs U] := by
  have e : (.raw (.tuple #[.agg #[.int .i64 0, .int .i64 0], .bool false, .int .i64 E]) : V) = V.raw (.tuple { toList := [.agg { toList := [.int .i64 0, .int .i64 0] }, .bool false, .int .i64 E] }) := by rfl
  rw [e]
  exact lnSpot_e_1 nm gs cs n k T U w g y a b r p q E hC u v hE
abbrev zq204 (gs : List Int) (T : Nat) (cs : List Int) (U : Nat) (nm : ByteArray) (w : Int) (g : Int) (y : Int) (n : Nat) (a : Int) (b : Int) (r : Int) (p : Int) (q : Int) (k : Nat) (u : Int) (v : Int) : Heap := [bkG gs T, bkI cs U, bkW nm w g y n a b r p q k, bkP u v, bkP 0 0, bkW nm w g y n a b r p q k, bkP u v, bkW nm w g y n a b r p q k, bkP u v]
abbrev zq50 (nm : ByteArray) (w : Int) (g : Int) (y : Int) (n : Nat) (a : Int) (b : Int) (r : Int) (p : Int) (q : Int) (k : Nat) (gs : List Int) (T : Nat) (cs : List Int) (U : Nat) (u : Int) (v : Int) (E : Int) : Prop := Meets cfx 0 45 [lwA nm w g y n a b r p q k] (zq204 gs T cs U nm w g y n a b r p q k u v) (iV E) (zq204 gs T cs U nm w g y n a b r p q k u v)
abbrev zq99 (gs : List Int) (T : Nat) (cs : List Int) (U : Nat) (nm : ByteArray) (w : Int) (g : Int) (y : Int) (n : Nat) (a : Int) (b : Int) (r : Int) (p : Int) (q : Int) (k : Nat) (u : Int) (v : Int) : Heap := (zq204 gs T cs U nm w g y n a b r p q k u v)
theorem rnSpot_e_1 (E : Int) (hC : (zq183 nm w g y n a b r p q k gs T cs U E)) (u v : Int) (hE : ¬ E = 0)  : Meets cfx 0 21 [lwA nm w g y n a b r p q k, .raw (.agg #[.int .i64 u, .int .i64 v])] [bkG gs T, bkI cs U] (V.raw (.tuple { toList := [.agg { toList := [.int .i64 0, .int .i64 0] }, .bool false, .int .i64 E] })) [bkG gs T, bkI cs U] := by
  refine Meets.post (meets_ev cfx_mixed cfx_call zz zb (n := 40) (ans := [Ans.go, Ans.go, Ans.reth (iV E) (zq123 gs T cs U nm w g y n a b r p q k u v), zT, Ans.reth (iV E) (zq123 gs T cs U nm w g y n a b r p q k u v), zT, Ans.go, Ans.reth (iV E) (zq99 gs T cs U nm w g y n a b r p q k u v), zT, Ans.reth (iV E) (zq99 gs T cs U nm w g y n a b r p q k u v)]) (v := V.raw (.tuple { toList := [.agg { toList := [.int .i64 0, .int .i64 0] }, .bool false, .int .i64 E] })) (h' := (zq99 gs T cs U nm w g y n a b r p q k u v)) (cons := [((zq71 nm w g y n a b r p q k gs T cs U u v E)), ((!decide (E = 0)) = true), ((zq71 nm w g y n a b r p q k gs T cs U u v E)), ((!decide (E = 0)) = true), ((zq50 nm w g y n a b r p q k gs T cs U u v E)), ((!decide (E = 0)) = true), ((zq50 nm w g y n a b r p q k gs T cs U u v E))]) zk
    ⟨(by exact below2 (lim := 0) rfl rfl 0 1 (N := []) hC (mix_all _ _) (ints_all _) rfl (fun k X h => by simp at h) rfl rfl zz), zdf, (by exact below2 (lim := 0) rfl rfl 0 1 (N := []) hC (mix_all _ _) (ints_all _) rfl (fun k X h => by simp at h) rfl rfl zz), zdf, (by exact below2 (lim := 0) rfl rfl 0 1 (N := []) hC (mix_all _ _) (ints_all _) rfl (fun k X h => by simp at h) rfl rfl zz), zdf, (by exact below2 (lim := 0) rfl rfl 0 1 (N := []) hC (mix_all _ _) (ints_all _) rfl (fun k X h => by simp at h) rfl rfl zz), trivial⟩) zk zt0
theorem rnSpot_e (E : Int) (hC : (zq183 nm w g y n a b r p q k gs T cs U E)) (u v : Int) (hE : ¬ E = 0) : Meets cfx 0 21 [lwA nm w g y n a b r p q k, .raw (.agg #[.int .i64 u, .int .i64 v])] [bkG gs T, bkI cs U] (.raw (.tuple #[.agg #[.int .i64 0, .int .i64 0], .bool false, .int .i64 E])) [bkG gs T, bkI cs U] := by
  have e : (.raw (.tuple #[.agg #[.int .i64 0, .int .i64 0], .bool false, .int .i64 E]) : V) = V.raw (.tuple { toList := [.agg { toList := [.int .i64 0, .int .i64 0] }, .bool false, .int .i64 E] }) := by rfl
  rw [e]
  exact rnSpot_e_1 nm gs cs n k T U w g y a b r p q E hC u v hE
theorem rnSpot_p_1 (E : Int) (hC : (zq183 nm w g y n a b r p q k gs T cs U E)) (u v : Int) (hE : E = 0) (hP : ¬ M.ptE u v = 0)  : Meets cfx 0 21 [lwA nm w g y n a b r p q k, .raw (.agg #[.int .i64 u, .int .i64 v])] [bkG gs T, bkI cs U] (V.raw (.tuple { toList := [.agg { toList := [.int .i64 0, .int .i64 0] }, .bool false, .int .i64 2] })) [bkG gs T, bkI cs U] := by
  refine Meets.post (meets_ev cfx_mixed cfx_call zz zb (n := 40) (ans := [Ans.go, Ans.go, Ans.reth (iV E) (zq123 gs T cs U nm w g y n a b r p q k u v), zF, Ans.ret (V.raw (.bool (decide (M.ptE u v = 0)))), zT, zT, Ans.go, Ans.reth (iV E) (zq99 gs T cs U nm w g y n a b r p q k u v), zF, Ans.ret (V.raw (.bool (decide (M.ptE u v = 0)))), zT]) (v := V.raw (.tuple { toList := [.agg { toList := [.int .i64 0, .int .i64 0] }, .bool false, .int .i64 2] })) (h' := (zq99 gs T cs U nm w g y n a b r p q k u v)) (cons := [((zq71 nm w g y n a b r p q k gs T cs U u v E)), ((!decide (E = 0)) = false), ((zq179 u v)), ((!decide (M.ptE u v = 0)) = true), (true = true), ((zq50 nm w g y n a b r p q k gs T cs U u v E)), ((!decide (E = 0)) = false), ((zq179 u v)), ((!decide (M.ptE u v = 0)) = true)]) zk
    ⟨(by exact below2 (lim := 0) rfl rfl 0 1 (N := []) hC (mix_all _ _) (ints_all _) rfl (fun k X h => by simp at h) rfl rfl zz), zdf, (rnPointE _ _), zdf, rfl, (by exact below2 (lim := 0) rfl rfl 0 1 (N := []) hC (mix_all _ _) (ints_all _) rfl (fun k X h => by simp at h) rfl rfl zz), zdf, (rnPointE _ _), zdf, trivial⟩) zk zt0
theorem rnSpot_p (E : Int) (hC : (zq183 nm w g y n a b r p q k gs T cs U E)) (u v : Int) (hE : E = 0) (hP : ¬ M.ptE u v = 0) : Meets cfx 0 21 [lwA nm w g y n a b r p q k, .raw (.agg #[.int .i64 u, .int .i64 v])] [bkG gs T, bkI cs U] (.raw (.tuple #[.agg #[.int .i64 0, .int .i64 0], .bool false, .int .i64 2])) [bkG gs T, bkI cs U] := by
  have e : (.raw (.tuple #[.agg #[.int .i64 0, .int .i64 0], .bool false, .int .i64 2]) : V) = V.raw (.tuple { toList := [.agg { toList := [.int .i64 0, .int .i64 0] }, .bool false, .int .i64 2] }) := by rfl
  rw [e]
  exact rnSpot_p_1 nm gs cs n k T U w g y a b r p q E hC u v hE hP
end Go.Proofs.Ytmelbcmfahcffaa
end
section
namespace Go.Proofs.Ytmelbcmfahcffaa
open Go Go.RowKit Go.Proofs.Ytmelbcmfahcffaa.E2
variable (nm : ByteArray) (gs cs : List Int) (n k : Nat) (T U : Nat) (w g y a b r p q : Int)
theorem spotBoth (u v : Int) (hz : n * 5 ≤ gs.length) (hzc : k * 3 ≤ cs.length) (hn : n ≤ 20) (hk : k ≤ 300) (hnm : nm.size ≤ 100) : ∃ (x z : Int) (i : Bool) (e : Int), Meets cfx 0 20 [lwA nm w g y n a b r p q k, .raw (.agg #[.int .i64 u, .int .i64 v])] [bkG gs T, bkI cs U] (.raw (.tuple #[.agg #[.int .i64 x, .int .i64 z], .bool i, .int .i64 e])) [bkG gs T, bkI cs U] ∧ Meets cfx 0 21 [lwA nm w g y n a b r p q k, .raw (.agg #[.int .i64 u, .int .i64 v])] [bkG gs T, bkI cs U] (.raw (.tuple #[.agg #[.int .i64 x, .int .i64 z], .bool i, .int .i64 e])) [bkG gs T, bkI cs U] := by
  have hC := lnCheck nm gs cs n k T U w g y a b r p q hz hzc hn hk hnm
  have hR := rnCheck nm gs cs n k T U w g y a b r p q hz hzc hn hk hnm
  by_cases hE : M.lawnE nm gs cs n k w g y a b r p q = 0
  case neg => exact ⟨0, 0, false, _, lnSpot_e nm gs cs n k T U w g y a b r p q _ hC u v hE, rnSpot_e nm gs cs n k T U w g y a b r p q _ hR u v hE⟩
  rw [hE] at hC hR
  have hw := M.lawn_sides hE
  have hwg : (65536 ≤ w ∧ w ≤ 4194304) ∧ (65536 ≤ g ∧ g ≤ 4194304) ∧ (0 ≤ y ∧ y ≤ 1048576) := ⟨hw.1, hw.2.1, hw.2.2.1⟩
  by_cases hP : M.ptE u v = 0
  case neg =>
    have h := lnSpotP_P nm gs cs n k T U w g y a b r p q 0 hC u v hwg rfl hP
    rw [(M.pt_or u v).resolve_left hP] at h
    exact ⟨0, 0, false, 2, h, rnSpot_p nm gs cs n k T U w g y a b r p q 0 hR u v rfl hP⟩
  exact ⟨_, _, _, _, lnSpotP_ok nm gs cs n k T U w g y a b r p q 0 hC u v hwg rfl hP (M.pt_iff.1 hP), rnSpotP_ok nm gs cs n k T U w g y a b r p q 0 hR u v hw rfl hP (M.pt_iff.1 hP)⟩
theorem M.li_has {w g y u v : Int} (hw : (65536 ≤ w ∧ w ≤ 4194304) ∧ (65536 ≤ g ∧ g ≤ 4194304) ∧ (0 ≤ y ∧ y ≤ 1048576) ∧ 2 * y ≤ w - 2 ∧ 2 * y ≤ g - 2) : (M.yHas y y (w - y) (g - y) u v = false → M.liV w g y u v < 0) ∧ (M.yHas y y (w - y) (g - y) u v = true → 0 ≤ M.liV w g y u v ∧ M.liV w g y u v = M.yNum y y (w - y) (g - y) u v) := by
  constructor
  · intro h
    have hn : ¬ ((u = y ∨ u = w - y ∨ v = y ∨ v = g - y) ∧ (y ≤ u ∧ u ≤ w - y) ∧ (y ≤ v ∧ v ≤ g - y)) := by
      intro k
      have : M.yHas y y (w - y) (g - y) u v = true := by
        unfold M.yHas
        rw [show M.ySp u y (w - y) = u by unfold M.ySp; omega, show M.ySp v y (g - y) = v by unfold M.ySp; omega]
        simp only [decide_true, Bool.and_self, Bool.and_true, Bool.or_eq_true, decide_eq_true_eq]
        omega
      rw [h] at this
      cases this
    unfold M.liV
    rw [if_neg hn]
    omega
  · intro h
    unfold M.yHas M.ySp at h
    simp only [Bool.and_eq_true, Bool.or_eq_true, decide_eq_true_eq] at h
    have hp : ((u = y ∨ u = w - y ∨ v = y ∨ v = g - y) ∧ (y ≤ u ∧ u ≤ w - y) ∧ (y ≤ v ∧ v ≤ g - y)) := by omega
    unfold M.liV
    rw [if_pos hp]
    refine ⟨?_, rfl⟩
    unfold M.yNum M.yHalf
    (repeat' split) <;> omega
end Go.Proofs.Ytmelbcmfahcffaa
end
section
namespace Go.Proofs.Ytmelbcmfahcffaa
open Go Go.RowKit Go.Proofs.Ytmelbcmfahcffaa.E2
theorem M.oth_ok {os : List Int} {m : Nat} (h : M.othE os m = 0) : m ≤ 12 ∧ ∀ i : Nat, i < m → M.In (at' os (i * 3)) (at' os (i * 3 + 1)) ∧ 1 ≤ at' os (i * 3 + 2) ∧ at' os (i * 3 + 2) ≤ 16384 := by
  unfold M.othE at h
  by_cases hm : 12 < m
  · rw [if_pos hm] at h; omega
  · rw [if_neg hm] at h
    cases hb : M.othB os m with
    | false => rw [hb, if_neg (by simp)] at h; omega
    | true =>
      refine ⟨by omega, fun i hi => ?_⟩
      have h1 := all_range hb i hi
      unfold M.othZ at h1
      rw [Bool.and_eq_true] at h1
      exact ⟨M.ptB_iff.1 h1.1, M.btw_iff.1 h1.2⟩
theorem M.ball_ok {s : Int} {os : List Int} {m : Nat} (h : M.ballE s os m = 0) : M.radE s = 0 ∧ M.othE os m = 0 := by
  unfold M.ballE at h
  by_cases hs : M.radE s = 0
  · rw [if_pos hs] at h; exact ⟨hs, h⟩
  · rw [if_neg hs] at h; exact absurd h hs
theorem M.ball1_eq {u v s : Int} {os : List Int} {m : Nat} (hP : M.ptE u v = 0) : M.ball1E 0 u v s os m = M.ballE s os m := by
  unfold M.ball1E M.ballE
  rw [if_neg (by simp), if_neg (by simp [hP])]
  by_cases hs : M.radE s = 0
  · rw [if_neg (by simp [hs]), if_pos hs]
  · rw [if_pos hs, if_neg hs]
end Go.Proofs.Ytmelbcmfahcffaa
end
section
namespace Go.Proofs.Ytmelbcmfahcffaa
open Go Go.RowKit Go.Proofs.Ytmelbcmfahcffaa.E2
variable (nm : ByteArray) (gs cs : List Int) (n k : Nat) (T U : Nat) (w g y a b r p q : Int)
theorem lnPut_B_1 (os : List Int) (m : Nat) (W : Nat) (u v s : Int) (hz : m * 3 ≤ os.length) (be : Int) (he : ¬ be = 0) (hB : Meets cfx 0 71 [lwA nm w g y n a b r p q k, .raw (.int .i64 s), .slo 2 m, .slo 3 1] (zq185 gs T cs U os W u v) (.raw (.int .i64 be)) (zq185 gs T cs U os W u v))  : Meets cfx 0 39 (zq184 nm w g y n a b r p q k u v s m) [bkG gs T, bkI cs U, bkI os W] (V.raw (.tuple { toList := [.agg { toList := [.int .i64 0, .int .i64 0] }, .int .i64 be] })) [bkG gs T, bkI cs U, bkI os W] := by
  refine Meets.post (meets_ev cfx_mixed cfx_call zz zb (n := 40) (ans := [Ans.go, Ans.reth (iV be) (zq108 gs T cs U os W nm w g y n a b r p q k u v s m), zT]) (v := V.raw (.tuple { toList := [.agg { toList := [.int .i64 0, .int .i64 0] }, .int .i64 be] })) (h' := [bkG gs T, bkI cs U, bkI os W, bkW nm w g y n a b r p q k, bkP u v, some (.cells [iV s] 2 .rw), some (.cells [.slo 2 m] 32 .rw), bkP 0 0, some (.cells [iV be] 33 .rw), some (.cells [iV u, iV v] 24 (.row 2))]) (cons := [(1 ≤ 9223372036854775807), (Meets cfx 0 71 [lwA nm w g y n a b r p q k, iV s, .slo 2 m, .slo 9 1] (zq108 gs T cs U os W nm w g y n a b r p q k u v s m) (iV be) (zq108 gs T cs U os W nm w g y n a b r p q k u v s m)), ((!decide (be = 0)) = true)]) zk
    ⟨zds, (by exact below_ro (lim := 0) (N := []) rfl rfl (fun k => if k = 0 then 0 else if k = 1 then 1 else if k = 2 then 2 else 9) (fun _ => false) hB ⟨⟨_, _, rfl, mix_all _ _, .inl ⟨rfl, _, rfl⟩⟩, ⟨_, _, rfl, ints_all _, .inl ⟨rfl, _, rfl⟩⟩, ⟨_, _, rfl, ints_all _, .inl ⟨rfl, _, rfl⟩⟩, ⟨_, _, rfl, rfl, .inl ⟨rfl, _, rfl⟩⟩, trivial⟩ (fun _ _ => rfl) rfl rfl rfl (fun k X h => by simp at h) zz), zdf, trivial⟩) zk zt8
theorem lnPut_B (os : List Int) (m : Nat) (W : Nat) (u v s : Int) (hz : m * 3 ≤ os.length) (be : Int) (he : ¬ be = 0) (hB : Meets cfx 0 71 [lwA nm w g y n a b r p q k, .raw (.int .i64 s), .slo 2 m, .slo 3 1] (zq185 gs T cs U os W u v) (.raw (.int .i64 be)) (zq185 gs T cs U os W u v)) : Meets cfx 0 39 (zq184 nm w g y n a b r p q k u v s m) [bkG gs T, bkI cs U, bkI os W] (.raw (.tuple #[.agg #[.int .i64 0, .int .i64 0], .int .i64 be])) [bkG gs T, bkI cs U, bkI os W] := by
  have e : (.raw (.tuple #[.agg #[.int .i64 0, .int .i64 0], .int .i64 be]) : V) = V.raw (.tuple { toList := [.agg { toList := [.int .i64 0, .int .i64 0] }, .int .i64 be] }) := by rfl
  rw [e]
  exact lnPut_B_1 nm gs cs n k T U w g y a b r p q os m W u v s hz be he hB
theorem lnPut_H_1 (os : List Int) (m : Nat) (W : Nat) (u v s : Int) (hz : m * 3 ≤ os.length) (hB : (zq102 nm w g y n a b r p q k s m gs T cs U os W u v)) (hwg : (0 ≤ w ∧ w ≤ 4194304) ∧ (0 ≤ g ∧ g ≤ 4194304) ∧ (0 ≤ y ∧ y ≤ 1048576)) (sx sy : Int) (hsp : (zq147 y w g u v sx sy)) (hha : Ret cfx 66 [.raw (.agg #[.int .i64 y, .int .i64 y, .int .i64 (w - y), .int .i64 (g - y)]), .raw (.agg #[.int .i64 sx, .int .i64 sy])] (.raw (.bool false)))  : Meets cfx 0 39 (zq184 nm w g y n a b r p q k u v s m) [bkG gs T, bkI cs U, bkI os W] (V.raw (.tuple { toList := [.agg { toList := [.int .i64 0, .int .i64 0] }, .int .i64 5] })) [bkG gs T, bkI cs U, bkI os W] := by
  refine Meets.post (meets_ev cfx_mixed cfx_call zz zb (n := 40) (ans := [Ans.go, Ans.reth (iV 0) (zq108 gs T cs U os W nm w g y n a b r p q k u v s m), zF, Ans.go, Ans.ret (V.raw (.agg { toList := [.int .i64 sx, .int .i64 sy] })), Ans.ret (V.raw (.bool false)), zT]) (v := V.raw (.tuple { toList := [.agg { toList := [.int .i64 0, .int .i64 0] }, .int .i64 5] })) (h' := [bkG gs T, bkI cs U, bkI os W, bkW nm w g y n a b r p q k, bkP u v, some (.cells [iV s] 2 .rw), some (.cells [.slo 2 m] 32 .rw), bkP 0 0, some (.cells [iV 5] 33 .rw), some (.cells [iV u, iV v] 24 (.row 2)), bkW nm w g y n a b r p q k, some (.cells [iV y, iV y, iV (w - y), iV (g - y)] 89 .rw), some (.cells [iV y, iV y, iV (w - y), iV (g - y)] 89 .rw), bkP sx sy]) (cons := [(1 ≤ 9223372036854775807), ((zq60 nm w g y n a b r p q k s m gs T cs U os W u v)), (false = false), (inR IntKind.i64 (w - y)), (inR IntKind.i64 (g - y)), ((zq127 y w g u v sx sy)), (Ret cfx 66 (zq211 y w g sx sy) (V.raw (.bool false))), (true = true)]) zk
    ⟨zds, (by exact below_ro (lim := 0) (N := []) rfl rfl (fun k => if k = 0 then 0 else if k = 1 then 1 else if k = 2 then 2 else 9) (fun _ => false) hB ⟨⟨_, _, rfl, mix_all _ _, .inl ⟨rfl, _, rfl⟩⟩, ⟨_, _, rfl, ints_all _, .inl ⟨rfl, _, rfl⟩⟩, ⟨_, _, rfl, ints_all _, .inl ⟨rfl, _, rfl⟩⟩, ⟨_, _, rfl, rfl, .inl ⟨rfl, _, rfl⟩⟩, trivial⟩ (fun _ _ => rfl) rfl rfl rfl (fun k X h => by simp at h) zz), rfl, inR_i64 zo zo, inR_i64 zo zo, (hsp), (hha), rfl, trivial⟩) zk zt8
theorem lnPut_H (os : List Int) (m : Nat) (W : Nat) (u v s : Int) (hz : m * 3 ≤ os.length) (hB : (zq102 nm w g y n a b r p q k s m gs T cs U os W u v)) (hwg : (0 ≤ w ∧ w ≤ 4194304) ∧ (0 ≤ g ∧ g ≤ 4194304) ∧ (0 ≤ y ∧ y ≤ 1048576)) (sx sy : Int) (hsp : (zq147 y w g u v sx sy)) (hha : Ret cfx 66 [.raw (.agg #[.int .i64 y, .int .i64 y, .int .i64 (w - y), .int .i64 (g - y)]), .raw (.agg #[.int .i64 sx, .int .i64 sy])] (.raw (.bool false))) : Meets cfx 0 39 (zq184 nm w g y n a b r p q k u v s m) [bkG gs T, bkI cs U, bkI os W] (.raw (.tuple #[.agg #[.int .i64 0, .int .i64 0], .int .i64 5])) [bkG gs T, bkI cs U, bkI os W] := by
  have e : (.raw (.tuple #[.agg #[.int .i64 0, .int .i64 0], .int .i64 5]) : V) = V.raw (.tuple { toList := [.agg { toList := [.int .i64 0, .int .i64 0] }, .int .i64 5] }) := by rfl
  rw [e]
  exact lnPut_H_1 nm gs cs n k T U w g y a b r p q os m W u v s hz hB hwg sx sy hsp hha
theorem M.sp_in {w g y u v : Int} (hw : (65536 ≤ w ∧ w ≤ 4194304) ∧ (65536 ≤ g ∧ g ≤ 4194304) ∧ (0 ≤ y ∧ y ≤ 1048576) ∧ 2 * y ≤ w - 2 ∧ 2 * y ≤ g - 2) : (y ≤ M.ySp u y (w - y) ∧ M.ySp u y (w - y) ≤ w - y) ∧ (y ≤ M.ySp v y (g - y) ∧ M.ySp v y (g - y) ≤ g - y) := by
  unfold M.ySp; omega
theorem M.li_bd {w g y u v : Int} (hw : (65536 ≤ w ∧ w ≤ 4194304) ∧ (65536 ≤ g ∧ g ≤ 4194304) ∧ (0 ≤ y ∧ y ≤ 1048576) ∧ 2 * y ≤ w - 2 ∧ 2 * y ≤ g - 2) : M.liV w g y u v ≤ 16777216 := by
  unfold M.liV
  split
  · unfold M.yNum M.yHalf
    (repeat' split) <;> omega
  · omega
end Go.Proofs.Ytmelbcmfahcffaa
end
section
namespace Go.Proofs.Ytmelbcmfahcffaa.E2
open Go Go.RowKit
def cellW (zs : List Int) (b : Option IntKind) (k : Nat) : Value := match b with
  | none => .bool (nz zs k)
  | some q => .int q (at' zs k)
def mixk (ks : List (Option IntKind)) (zs : List Int) : List V := (List.range zs.length).map fun k => .raw (cellW zs (ks.getD (k % ks.length) none) k)
theorem mixk_all (ks : List (Option IntKind)) (zs : List Int) : (mixk ks zs).all isRawV = true := by
  rw [List.all_eq_true]
  intro x hx
  obtain ⟨k, _, rfl⟩ := List.mem_map.1 hx
  rfl
theorem mixk_len (ks : List (Option IntKind)) (zs : List Int) : (mixk ks zs).length = zs.length := by simp [mixk]
theorem mixk_get (ks : List (Option IntKind)) (zs : List Int) {k : Nat} (h : k < zs.length) : (mixk ks zs)[k]? = some (.raw (cellW zs (ks.getD (k % ks.length) none) k)) := by
  unfold mixk
  rw [List.getElem?_map, List.getElem?_range h]
  rfl
theorem load_mixk1 {c : Cfg} {ks : List (Option IntKind)} {zs : List Int} {T : TypeId} {off : Nat} (q : Nat) (b : Option IntKind) (hT : pureRun c.P (isAgg T) = some false) (hq : off % ks.length = q) (hb : ks.getD q none = b) (h : off < zs.length) : loadRow c T (mixk ks zs) off = some (.raw (cellW zs b off)) := by
  unfold loadRow
  rw [hT]
  dsimp only
  rw [mixk_get ks zs h, hq, hb]
end Go.Proofs.Ytmelbcmfahcffaa.E2
namespace Go.Proofs.Ytmelbcmfahcffaa.K
open Go Go.Deep Go.ChangeShapes Go.WideShapes Go.ChangeAt Go.RowKit
def cellOkW (b : Option IntKind) (v : Value) : Prop := match b with
  | none => ∃ q, v = .bool q
  | some q => ∃ z, v = .int q z ∧ (Lit.int q z).wf = true
theorem allOk_getW : ∀ (ks : List (Option IntKind)) (cs : List Value), AllOk ks cs → ∀ j, j < ks.length → ∃ v, cs[j]? = some v ∧ cellOkW (ks.getD j none) v
  | [], _, _, j, hj => by simp at hj
  | b :: ks, cs, h, j, hj => by
    have key : ∃ v rest, cs = v :: rest ∧ cellOkW b v ∧ AllOk ks rest := by
      cases b with
      | none =>
        obtain ⟨q, rest, rfl, hr⟩ := h
        exact ⟨_, rest, rfl, ⟨q, rfl⟩, hr⟩
      | some q0 =>
        obtain ⟨z, rest, rfl, hw, hr⟩ := h
        exact ⟨_, rest, rfl, ⟨z, rfl, hw⟩, hr⟩
    obtain ⟨v, rest, rfl, hv, hr⟩ := key
    cases j with
    | zero => exact ⟨v, rfl, hv⟩
    | succ j =>
      obtain ⟨y, h1, h2⟩ := allOk_getW ks rest hr j (by simpa using hj)
      exact ⟨y, by simpa using h1, by simpa using h2⟩
theorem cellW_num {b : Option IntKind} {v : Value} {zs : List Int} {k : Nat} (h : cellOkW b v) (hz : E2.at' zs k = numB v) : E2.cellW zs b k = v := by
  cases b with
  | none =>
    obtain ⟨q, rfl⟩ := h
    show Value.bool (!decide (E2.at' zs k = 0)) = _
    rw [hz]
    cases q <;> rfl
  | some q0 =>
    obtain ⟨z, rfl, _⟩ := h
    show Value.int q0 (E2.at' zs k) = _
    rw [hz]; rfl
section
variable {H : Type} {enc : TypeId × Value → H} {P : Program} {w : World} {base : Nat} {spare : Nat → Bool} {held : Bool}
theorem open_mixk {r : Reach} {b0 : Nat} {t e : TypeId} (ks : List (Option IntKind)) {v : Value} {dd : DataW H} {p : List MemPlace} (hs : P.underlying t = some (.slice e)) (hl : flatK P 9 e = some ks) (hc : P.cellsOf e = ks.length) (hn : 0 < ks.length) (hv : Value.okWide P w r b0 t v) (h : DataW.Trod enc P w base spare held t v dd p) :
    ∃ (l : E2.Loc) (m : Nat) (zs : List Int) (T : TypeId), v = E2.slcOf l m ∧ zs.length = m * ks.length ∧ (∀ k, k < zs.length → ∃ u, cellOkW (ks.getD (k % ks.length) none) u ∧ E2.at' zs k = numB u) ∧ ∀ ρ, E2.CellsOk ρ l w (E2.mixk ks zs) T .ro := by
  generalize hnn : ks.length = n at *
  obtain ⟨a0, len0, cap0, rfl⟩ := okWide_slice hs hv
  obtain ⟨fuel, hf⟩ := h
  rcases DataW.trod_slice hs hf with ⟨h0, _⟩ | ⟨a, len, cap, elems, rest, k, _, h0, _, hb, hlc, hcm, hlen, hel, _, _⟩
  · have : Value.slice a0 len0 cap0 = .slice none 0 0 := by simpa [Value.cells] using h0
    rw [this]
    exact ⟨⟨0, [], [], 0, true⟩, 0, [], 0, rfl, by simp, fun k hk => absurd hk (Nat.not_lt_zero k), fun ρ => ⟨fun _ => rfl, fun hq => (by cases hq), fun sz hq => (by cases hq)⟩⟩
  · have hvv : Value.slice a0 len0 cap0 = .slice (some a) len cap := by simpa [Value.cells] using h0
    rw [hvv] at hv ⊢
    have hok : w.has P r b0 a e cap := by
      unfold Value.okWide at hv
      rw [hs] at hv
      simp only [Cell.okWide, hs, Cell.ok] at hv
      exact hv.2.2
    obtain ⟨_, hspot, row, size, hsh, hlies⟩ := hok
    obtain ⟨c, fr, hblk, rfl⟩ : ∃ c fr, w.heap[a.block]? = some (.cells c row fr) ∧ size = c.size := by
      unfold World.shape? at hsh
      split at hsh
      · rename_i c elem fr hb
        simp only [Option.some.injEq, Prod.mk.injEq] at hsh
        obtain ⟨rfl, rfl⟩ := hsh
        exact ⟨c, fr, hb, rfl⟩
      · cases hsh
    have hoff : a.off ≤ c.size := Nat.le_trans (liesAt_le _ _ _ _ _ _ hlies) (Nat.div_mul_le_self _ _)
    have hcell : ∀ i j, i < len → j < n → ∃ u, c[a.off + (i * n + j)]? = some u ∧ cellOkW (ks.getD j none) u := by
      intro i j hi hj
      have h1 := hel i hi
      rw [List.getElem?_eq_getElem (by omega)] at h1
      obtain ⟨cs, h2, h3⟩ := Option.bind_eq_some_iff.1 h1
      rw [hc] at h2
      obtain ⟨z, h4, h5⟩ := allOk_getW ks cs (flat_cells 9 _ _ _ _ _ hl h3) j (by omega)
      obtain ⟨_, _, h6⟩ := World.cells?_some h2
      have h7 := h6 j hj
      rw [Deep.add_add] at h7
      have h8 : w.cell? (a.add (i * n + j)) = c[a.off + (i * n + j)]? := by
        unfold World.cell? Addr.add
        by_cases hz : i * n + j = 0
        · rw [if_pos hz, hblk, hz]; simp [hspot]
        · rw [if_neg hz]; simp [hblk]
      exact ⟨z, by rw [← h8, h7]; exact h4, h5⟩
    have hat : ∀ k, k < len * n → ∃ u, c[a.off + k]? = some u ∧ cellOkW (ks.getD (k % n) none) u := by
      intro k hk
      have hi : k / n < len := by rw [Nat.div_lt_iff_lt_mul hn]; exact hk
      have := hcell (k / n) (k % n) hi (Nat.mod_lt _ hn)
      have e1 : k / n * n + k % n = k := by
        have := Nat.div_add_mod k n
        rw [Nat.mul_comm] at this
        exact this
      rwa [e1] at this
    have hfit : a.off + len * n ≤ c.size := by
      rcases Nat.eq_zero_or_pos (len * n) with h0 | h0
      · omega
      · obtain ⟨z, hz, _⟩ := hat (len * n - 1) (by omega)
        have := (Array.getElem?_eq_some_iff.1 hz).1
        omega
    generalize hzs : ((c.toList.drop a.off).take (len * n)).map numB = zs
    have hzl : zs.length = len * n := by rw [← hzs]; simp; omega
    have hnum : ∀ k u, k < len * n → c[a.off + k]? = some u → E2.at' zs k = numB u := by
      intro k u hk hu
      rw [← hzs]
      have : (((c.toList.drop a.off).take (len * n)).map numB)[k]? = some (numB u) := by
        rw [List.getElem?_map, List.getElem?_take, if_pos hk, List.getElem?_drop, Array.getElem?_toList, hu]; rfl
      unfold E2.at'
      rw [List.getD_eq_getElem?_getD, this]
      rfl
    refine ⟨⟨a.block, c.toList.take a.off, c.toList.drop (a.off + len * n), cap, false⟩, len, zs, row, ?_, hzl, ?_, fun ρ => ⟨fun hq => (by cases hq), fun _ => ⟨fr, ?_, fun hq => absurd rfl hq⟩, fun sz hq => (by cases hq)⟩⟩
    · unfold E2.slcOf
      rw [if_neg (by simp)]
      have e1 : (c.toList.take a.off).length = a.off := by simp; omega
      simp only [e1]
      cases a with
      | mk b o s => simp only at hspot; subst hspot; rfl
    · intro k hk
      rw [hzl] at hk
      obtain ⟨u, h1, h2⟩ := hat k hk
      exact ⟨u, h2, hnum k u hk h1⟩
    · have e2 : E2.concs ρ (E2.mixk ks zs) = (c.toList.drop a.off).take (len * n) := by
        rw [E2.concs_map]
        apply List.ext_getElem?
        intro k
        rw [List.getElem?_map, List.getElem?_take]
        by_cases hk : k < len * n
        · obtain ⟨u, h1, h2⟩ := hat k hk
          rw [E2.mixk_get ks zs (by omega), if_pos hk, List.getElem?_drop, Array.getElem?_toList, h1, hnn]
          show some (E2.cellW zs _ k) = _
          rw [cellW_num h2 (hnum k u hk h1)]
        · rw [if_neg hk, List.getElem?_eq_none (by rw [E2.mixk_len]; omega)]
          rfl
      rw [e2]
      have e3 : c.toList.take a.off ++ (c.toList.drop a.off).take (len * n) ++ c.toList.drop (a.off + len * n) = c.toList := by
        rw [List.append_assoc, ← List.drop_drop, List.take_append_drop, List.take_append_drop]
      show w.heap[a.block]? = some (.cells (c.toList.take a.off ++ (c.toList.drop a.off).take (len * n) ++ c.toList.drop (a.off + len * n)).toArray row fr)
      rw [e3]
      exact hblk
end
end Go.Proofs.Ytmelbcmfahcffaa.K
end
section
namespace Go.Proofs.Ytmelbcmfahcffaa
open Go Go.RowKit Go.Proofs.Ytmelbcmfahcffaa.E2
variable (nm : ByteArray) (gs cs : List Int) (n k : Nat) (T U : Nat) (w g y a b r p q : Int)
abbrev zq31 (nm : ByteArray) (w : Int) (g : Int) (y : Int) (n : Nat) (a : Int) (b : Int) (r : Int) (p : Int) (q : Int) (k : Nat) (u : Int) (v : Int) (s : Int) (m : Nat) (pl : Nat) (ib : Bool) (st : Int) (ax : Int) (az : Int) (hf : Int) (aw : Int) (kk : Int) : List V := (catV [lwA nm w g y n a b r p q k, V.raw (.agg { toList := [.int .i64 u, .int .i64 v] }), iV s, .slo 2 m, .slo 3 pl, .ptr 4 0, .ptr 5 0, uV, uV, uV, V.raw (.bool false), .ptr 7 0, iV 0, .ptr 8 0, V.raw (.bool ib), iV 0, .ptr 9 0, iV 0, iV st, iV 0, iV (M.yNum y y (w - y) (g - y) ax az), iV 0, iV (2 * hf), iV aw, iV kk] (anyR 25 147 []))
def frp_T (nm : ByteArray) (gs cs : List Int) (n k : Nat) (T U : Nat) (w g y a b r p q : Int) (os : List Int) (m : Nat) (W : Nat) (u v s : Int) (pa : List Int) (pl : Nat) (Z : Nat) (sx sy ax az hf : Int) (ib : Bool) (kk aw st : Int) : List V := (zq31 nm w g y n a b r p q k u v s m pl ib st ax az hf aw kk)
abbrev zq203 (gs : List Int) (T : Nat) (cs : List Int) (U : Nat) (os : List Int) (W : Nat) (pa : List Int) (Z : Nat) (nm : ByteArray) (w : Int) (g : Int) (y : Int) (n : Nat) (a : Int) (b : Int) (r : Int) (p : Int) (q : Int) (k : Nat) (u : Int) (v : Int) (ax : Int) (az : Int) (sx : Int) (sy : Int) : Heap := [bkG gs T, bkI cs U, bkI os W, some (.cells (mixk [some .u16] pa) Z .ro), bkW nm w g y n a b r p q k, bkP u v, bkW nm w g y n a b r p q k, bkP ax az, bkP sx sy, bkP sx sy]
abbrev zq96 (gs : List Int) (T : Nat) (cs : List Int) (U : Nat) (os : List Int) (W : Nat) (pa : List Int) (Z : Nat) (nm : ByteArray) (w : Int) (g : Int) (y : Int) (n : Nat) (a : Int) (b : Int) (r : Int) (p : Int) (q : Int) (k : Nat) (u : Int) (v : Int) (ax : Int) (az : Int) (sx : Int) (sy : Int) : Heap := (zq203 gs T cs U os W pa Z nm w g y n a b r p q k u v ax az sx sy)
def frp_H (nm : ByteArray) (gs cs : List Int) (n k : Nat) (T U : Nat) (w g y a b r p q : Int) (os : List Int) (m : Nat) (W : Nat) (u v s : Int) (pa : List Int) (pl : Nat) (Z : Nat) (sx sy ax az hf : Int) (ib : Bool) (kk aw st : Int) : Heap := (zq96 gs T cs U os W pa Z nm w g y n a b r p q k u v ax az sx sy)
abbrev zq97 (gs : List Int) (T : Nat) (cs : List Int) (U : Nat) (os : List Int) (W : Nat) (pa : List Int) (Z : Nat) (nm : ByteArray) (w : Int) (g : Int) (y : Int) (n : Nat) (a : Int) (b : Int) (r : Int) (p : Int) (q : Int) (k : Nat) (u : Int) (v : Int) (ax : Int) (az : Int) (sx : Int) (sy : Int) : Heap := [bkG gs T, bkI cs U, bkI os W, some (.cells (mixk [some .u16] pa) Z .ro), some (.cells (lwC nm w g y n a b r p q k) 29 .ro), some (.cells [iV u, iV v] 24 .ro), some (.cells (lwC nm w g y n a b r p q k) 29 .ro), some (.cells [iV ax, iV az] 24 .ro), some (.cells [iV sx, iV sy] 24 .ro), some (.cells [iV sx, iV sy] 24 .ro)]
abbrev zq104 (nm : ByteArray) (w : Int) (g : Int) (y : Int) (n : Nat) (a : Int) (b : Int) (r : Int) (p : Int) (q : Int) (k : Nat) (u : Int) (v : Int) (s : Int) (gs : List Int) (T : Nat) (cs : List Int) (U : Nat) (sx : Int) (sy : Int) : Prop := Meets cfx 0 39 [lwA nm w g y n a b r p q k, .raw (.agg #[.int .i64 u, .int .i64 v]), .raw (.int .i64 s), .slo 2 0] [bkG gs T, bkI cs U, some (.cells (ints []) 0 .ro)] (.raw (.tuple #[.agg #[.int .i64 sx, .int .i64 sy], .int .i64 0])) [bkG gs T, bkI cs U, some (.cells (ints []) 0 .ro)]
abbrev zq116 (nm : ByteArray) (w : Int) (g : Int) (y : Int) (n : Nat) (a : Int) (b : Int) (r : Int) (p : Int) (q : Int) (k : Nat) (u : Int) (v : Int) (s : Int) (m : Nat) (gs : List Int) (T : Nat) (cs : List Int) (U : Nat) (os : List Int) (W : Nat) (ax : Int) (az : Int) : Prop := Meets cfx 0 39 [lwA nm w g y n a b r p q k, .raw (.agg #[.int .i64 u, .int .i64 v]), .raw (.int .i64 s), .slo 2 m] [bkG gs T, bkI cs U, bkI os W] (.raw (.tuple #[.agg #[.int .i64 ax, .int .i64 az], .int .i64 0])) [bkG gs T, bkI cs U, bkI os W]
abbrev zq135 (nm : ByteArray) (w : Int) (g : Int) (y : Int) (n : Nat) (a : Int) (b : Int) (r : Int) (p : Int) (q : Int) (k : Nat) (sx : Int) (sy : Int) (gs : List Int) (T : Nat) (cs : List Int) (U : Nat) : Prop := Meets cfx 0 24 [lwA nm w g y n a b r p q k, .raw (.agg #[.int .i64 sx, .int .i64 sy])] [bkG gs T, bkI cs U] (.raw (.tuple #[.int .i64 (M.yNum y y (w - y) (g - y) sx sy), .int .i64 0])) [bkG gs T, bkI cs U]
abbrev zq136 (nm : ByteArray) (w : Int) (g : Int) (y : Int) (n : Nat) (a : Int) (b : Int) (r : Int) (p : Int) (q : Int) (k : Nat) (ax : Int) (az : Int) (gs : List Int) (T : Nat) (cs : List Int) (U : Nat) : Prop := Meets cfx 0 24 [lwA nm w g y n a b r p q k, .raw (.agg #[.int .i64 ax, .int .i64 az])] [bkG gs T, bkI cs U] (.raw (.tuple #[.int .i64 (M.yNum y y (w - y) (g - y) ax az), .int .i64 0])) [bkG gs T, bkI cs U]
abbrev zq138 (nm : ByteArray) (w : Int) (g : Int) (y : Int) (n : Nat) (a : Int) (b : Int) (r : Int) (p : Int) (q : Int) (k : Nat) (u : Int) (v : Int) (gs : List Int) (T : Nat) (cs : List Int) (U : Nat) (sx : Int) (sy : Int) (ib : Bool) : Prop := Meets cfx 0 20 [lwA nm w g y n a b r p q k, .raw (.agg #[.int .i64 u, .int .i64 v])] [bkG gs T, bkI cs U] (.raw (.tuple #[.agg #[.int .i64 sx, .int .i64 sy], .bool ib, .int .i64 0])) [bkG gs T, bkI cs U]
abbrev zq171 (nm : ByteArray) (w : Int) (g : Int) (y : Int) (n : Nat) (a : Int) (b : Int) (r : Int) (p : Int) (q : Int) (k : Nat) (gs : List Int) (T : Nat) (cs : List Int) (U : Nat) (hf : Int) : Prop := Meets cfx 0 49 [lwA nm w g y n a b r p q k] [bkG gs T, bkI cs U] (.raw (.int .i64 (2 * hf))) [bkG gs T, bkI cs U]
abbrev zq181 (nm : ByteArray) (w : Int) (g : Int) (y : Int) (n : Nat) (a : Int) (b : Int) (r : Int) (p : Int) (q : Int) (k : Nat) (gs : List Int) (T : Nat) (cs : List Int) (U : Nat) : Prop := Meets cfx 0 45 [lwA nm w g y n a b r p q k] [bkG gs T, bkI cs U] (.raw (.int .i64 0)) [bkG gs T, bkI cs U]
theorem frp_3 (os : List Int) (m : Nat) (W : Nat) (u v s : Int) (pa : List Int) (pl : Nat) (Z : Nat) (h1 : nm.size ≤ 100) (h2 : n ≤ 20) (h3 : k ≤ 300) (h4 : m ≤ 12) (hC : (zq181 nm w g y n a b r p q k gs T cs U)) (sx sy ax az hf : Int) (ib : Bool) (hpu : (zq116 nm w g y n a b r p q k u v s m gs T cs U os W ax az)) (hpn : (zq104 nm w g y n a b r p q k u v s gs T cs U sx sy)) (hsp : (zq138 nm w g y n a b r p q k u v gs T cs U sx sy ib)) (hns : (zq135 nm w g y n a b r p q k sx sy gs T cs U)) (hna : (zq136 nm w g y n a b r p q k ax az gs T cs U)) (hpc : (zq171 nm w g y n a b r p q k gs T cs U hf)) (hz : m * 3 ≤ os.length) (hzp : pl ≤ pa.length) (hka : M.okP ax az) (hcl : M.tchA os m ax az s = false) (hst : 0 ≤ (M.yNum y y (w - y) (g - y) sx sy) ∧ (M.yNum y y (w - y) (g - y) sx sy) ≤ 16777216) (hnv : 0 ≤ (M.yNum y y (w - y) (g - y) ax az) ∧ (M.yNum y y (w - y) (g - y) ax az) ≤ 16777216) (hf0 : 1 ≤ hf ∧ hf ≤ 8388608) (hd1 : 0 ≤ (((M.yNum y y (w - y) (g - y) ax az) - (M.yNum y y (w - y) (g - y) sx sy) + 2 * hf).tmod (2 * hf)) ∧ (((M.yNum y y (w - y) (g - y) ax az) - (M.yNum y y (w - y) (g - y) sx sy) + 2 * hf).tmod (2 * hf)) < 2 * hf) (hd2 : 0 ≤ (((M.yNum y y (w - y) (g - y) sx sy) - (M.yNum y y (w - y) (g - y) ax az) + 2 * hf).tmod (2 * hf)) ∧ (((M.yNum y y (w - y) (g - y) sx sy) - (M.yNum y y (w - y) (g - y) ax az) + 2 * hf).tmod (2 * hf)) < 2 * hf) (hw : (65536 ≤ w ∧ w ≤ 4194304) ∧ (65536 ≤ g ∧ g ≤ 4194304) ∧ (0 ≤ y ∧ y ≤ 1048576) ∧ 2 * y ≤ w - 2 ∧ 2 * y ≤ g - 2) (hq2 : ∀ i : Nat, i < m → M.okP (at' os (i * 3)) (at' os (i * 3 + 1)) ∧ 1 ≤ at' os (i * 3 + 2) ∧ at' os (i * 3 + 2) ≤ 16384) (hs2 : 1 ≤ s ∧ s ≤ 16384) (hpl : ∀ j : Int, 0 ≤ j → j < 2 * hf → M.okP (M.yX y y (w - y) (g - y) j) (M.yY y y (w - y) (g - y) j)) (kk aw st : Int) (hk0 : 0 ≤ kk) (hk30 : kk ≤ 30) (hwr : 0 ≤ aw ∧ aw ≤ 8388608) (hsr : 0 ≤ st ∧ st ≤ 16777216) (hpk : 0 ≤ at' pa (kk.toNat * 1) ∧ at' pa (kk.toNat * 1) ≤ 65535) (hpp : -1000000000000 ≤ (aw - 1) * at' pa (kk.toNat * 1) ∧ (aw - 1) * at' pa (kk.toNat * 1) ≤ 1000000000000) (htt : 0 < aw → (0 ≤ (((aw - 1) * at' pa (kk.toNat * 1)).tdiv 65535) ∧ (((aw - 1) * at' pa (kk.toNat * 1)).tdiv 65535) ≤ 8388608)) (hta : 0 < aw → (0 ≤ ((st + (((aw - 1) * at' pa (kk.toNat * 1)).tdiv 65535)).tmod (2 * hf)) ∧ ((st + (((aw - 1) * at' pa (kk.toNat * 1)).tdiv 65535)).tmod (2 * hf)) < 2 * hf)) (htb : 0 < aw → (0 ≤ ((st - (((aw - 1) * at' pa (kk.toNat * 1)).tdiv 65535) + 2 * hf).tmod (2 * hf)) ∧ ((st - (((aw - 1) * at' pa (kk.toNat * 1)).tdiv 65535) + 2 * hf).tmod (2 * hf)) < 2 * hf)) (f0 : kk < (pl : Int)) (f1 : kk < 30) (f2 : 0 < aw) (f3 : M.tchA os m (M.yX y y (w - y) (g - y) ((st + ((aw - 1) * at' pa (kk.toNat * 1)).tdiv (65535 : Int)).tmod (2 * hf))) (M.yY y y (w - y) (g - y) ((st + ((aw - 1) * at' pa (kk.toNat * 1)).tdiv (65535 : Int)).tmod (2 * hf))) s = true) (f4 : M.tchA os m (M.yX y y (w - y) (g - y) ((st - ((aw - 1) * at' pa (kk.toNat * 1)).tdiv 65535 + 2 * hf).tmod (2 * hf))) (M.yY y y (w - y) (g - y) ((st - ((aw - 1) * at' pa (kk.toNat * 1)).tdiv 65535 + 2 * hf).tmod (2 * hf))) s = true) : Runs cfx 0 10 none (loopOf cfx.P 10 0) (frp_T nm gs cs n k T U w g y a b r p q os m W u v s pa pl Z sx sy ax az hf ib kk aw st) (frp_H nm gs cs n k T U w g y a b r p q os m W u v s pa pl Z sx sy ax az hf ib kk aw st) (Ex.normal) (frp_T nm gs cs n k T U w g y a b r p q os m W u v s pa pl Z sx sy ax az hf ib (kk + 1) aw st) (frp_H nm gs cs n k T U w g y a b r p q os m W u v s pa pl Z sx sy ax az hf ib (kk + 1) aw st) := by
  refine Runs.post (t1 := (catV [lwA nm w g y n a b r p q k, V.raw (.agg { toList := [.int .i64 u, .int .i64 v] }), iV s, .slo 2 m, .slo 3 pl, .ptr 4 0, .ptr 5 0, uV, uV, uV, V.raw (.bool false), .ptr 7 0, iV 0, .ptr 8 0, V.raw (.bool ib), iV 0, .ptr 9 0, iV 0, iV st, iV 0, iV (M.yNum y y (w - y) (g - y) ax az), iV 0, iV (2 * hf), iV aw, iV (kk + 1), iV (((aw - 1) * at' pa (kk.toNat * 1)).tdiv 65535)] (anyR 26 98 [iV kk, .slo 3 pl, iV (pl : Int), V.raw (.bool (decide (kk < (pl : Int)))), V.lit true, iV kk, V.raw (.bool (decide (kk < 30))), V.raw (.bool (decide (kk < 30))), V.lit true, iV aw, V.raw (.bool (decide (0 < aw))), V.raw (.bool (decide (0 < aw))), iV kk, iV (kk + 1), iV aw, iV (aw - 1), .slo 3 pl, iV kk, V.ptr 3 (kk.toNat * 1), V.raw (Value.int IntKind.u16 (at' pa (kk.toNat * 1))), iV (at' pa (kk.toNat * 1)), iV ((aw - 1) * at' pa (kk.toNat * 1)), iV (((aw - 1) * at' pa (kk.toNat * 1)).tdiv 65535), lwA nm w g y n a b r p q k, iV st, iV (((aw - 1) * at' pa (kk.toNat * 1)).tdiv 65535), iV (st + ((aw - 1) * at' pa (kk.toNat * 1)).tdiv 65535), iV (2 * hf), iV ((st + ((aw - 1) * at' pa (kk.toNat * 1)).tdiv (65535 : Int)).tmod (2 * hf)), V.raw (.agg { toList := [.int .i64 (M.yX y y (w - y) (g - y) ((st + ((aw - 1) * at' pa (kk.toNat * 1)).tdiv (65535 : Int)).tmod (2 * hf))), .int .i64 (M.yY y y (w - y) (g - y) ((st + ((aw - 1) * at' pa (kk.toNat * 1)).tdiv (65535 : Int)).tmod (2 * hf)))] }), iV s, .slo 2 m, V.raw (.bool !M.tchA os m (M.yX y y (w - y) (g - y) ((st + ((aw - 1) * at' pa (kk.toNat * 1)).tdiv (65535 : Int)).tmod (2 * hf))) (M.yY y y (w - y) (g - y) ((st + ((aw - 1) * at' pa (kk.toNat * 1)).tdiv (65535 : Int)).tmod (2 * hf))) s), V.raw (.bool !M.tchA os m (M.yX y y (w - y) (g - y) ((st + ((aw - 1) * at' pa (kk.toNat * 1)).tdiv (65535 : Int)).tmod (2 * hf))) (M.yY y y (w - y) (g - y) ((st + ((aw - 1) * at' pa (kk.toNat * 1)).tdiv (65535 : Int)).tmod (2 * hf))) s), lwA nm w g y n a b r p q k, iV st, iV (((aw - 1) * at' pa (kk.toNat * 1)).tdiv 65535), iV (st - ((aw - 1) * at' pa (kk.toNat * 1)).tdiv 65535), iV (2 * hf), iV (st - ((aw - 1) * at' pa (kk.toNat * 1)).tdiv 65535 + 2 * hf), iV (2 * hf), iV ((st - ((aw - 1) * at' pa (kk.toNat * 1)).tdiv 65535 + 2 * hf).tmod (2 * hf)), V.raw (.agg { toList := [.int .i64 (M.yX y y (w - y) (g - y) ((st - ((aw - 1) * at' pa (kk.toNat * 1)).tdiv 65535 + 2 * hf).tmod (2 * hf))), .int .i64 (M.yY y y (w - y) (g - y) ((st - ((aw - 1) * at' pa (kk.toNat * 1)).tdiv 65535 + 2 * hf).tmod (2 * hf)))] }), iV s, .slo 2 m, V.raw (.bool !M.tchA os m (M.yX y y (w - y) (g - y) ((st - ((aw - 1) * at' pa (kk.toNat * 1)).tdiv 65535 + 2 * hf).tmod (2 * hf))) (M.yY y y (w - y) (g - y) ((st - ((aw - 1) * at' pa (kk.toNat * 1)).tdiv 65535 + 2 * hf).tmod (2 * hf))) s), V.raw (.bool !M.tchA os m (M.yX y y (w - y) (g - y) ((st - ((aw - 1) * at' pa (kk.toNat * 1)).tdiv 65535 + 2 * hf).tmod (2 * hf))) (M.yY y y (w - y) (g - y) ((st - ((aw - 1) * at' pa (kk.toNat * 1)).tdiv 65535 + 2 * hf).tmod (2 * hf))) s), .any 171]))) (h1 := (zq96 gs T cs U os W pa Z nm w g y n a b r p q k u v ax az sx sy)) (body_of cfx_mixed cfx_call zz (rnd := none) (fi := 0) (k := 0) (n := 40) (n0 := 10) (ans := [zT, zT, zT, zT, zT, Ans.val 3 (V.raw (Value.int IntKind.u16 (at' pa (kk.toNat * 1)))), Ans.olds [], Ans.reth (V.raw (.agg { toList := [.int .i64 (M.yX y y (w - y) (g - y) ((st + ((aw - 1) * at' pa (kk.toNat * 1)).tdiv (65535 : Int)).tmod (2 * hf))), .int .i64 (M.yY y y (w - y) (g - y) ((st + ((aw - 1) * at' pa (kk.toNat * 1)).tdiv (65535 : Int)).tmod (2 * hf)))] })) (zq97 gs T cs U os W pa Z nm w g y n a b r p q k u v ax az sx sy), Ans.reth (V.raw (.bool !M.tchA os m (M.yX y y (w - y) (g - y) ((st + ((aw - 1) * at' pa (kk.toNat * 1)).tdiv (65535 : Int)).tmod (2 * hf))) (M.yY y y (w - y) (g - y) ((st + ((aw - 1) * at' pa (kk.toNat * 1)).tdiv (65535 : Int)).tmod (2 * hf))) s)) (zq97 gs T cs U os W pa Z nm w g y n a b r p q k u v ax az sx sy), zF, zF, zF, zF, zF, zF, zF, zF, zF, Ans.reth (V.raw (.agg { toList := [.int .i64 (M.yX y y (w - y) (g - y) ((st - ((aw - 1) * at' pa (kk.toNat * 1)).tdiv 65535 + 2 * hf).tmod (2 * hf))), .int .i64 (M.yY y y (w - y) (g - y) ((st - ((aw - 1) * at' pa (kk.toNat * 1)).tdiv 65535 + 2 * hf).tmod (2 * hf)))] })) (zq97 gs T cs U os W pa Z nm w g y n a b r p q k u v ax az sx sy), zF, zF, zF, Ans.reth (V.raw (.bool !M.tchA os m (M.yX y y (w - y) (g - y) ((st - ((aw - 1) * at' pa (kk.toNat * 1)).tdiv 65535 + 2 * hf).tmod (2 * hf))) (M.yY y y (w - y) (g - y) ((st - ((aw - 1) * at' pa (kk.toNat * 1)).tdiv 65535 + 2 * hf).tmod (2 * hf))) s)) (zq97 gs T cs U os W pa Z nm w g y n a b r p q k u v ax az sx sy), zF, zF]) (cons := [(decide (kk < (pl : Int)) = true), (true = true), (decide (kk < 30) = true), (true = true), (decide (0 < aw) = true), (inR IntKind.i64 (aw - 1)), (0 ≤ kk ∧ kk < (pl : Int)), (loadRow cfx 68 (mixk [some .u16] pa) (kk.toNat * 1) = some (V.raw (Value.int IntKind.u16 (at' pa (kk.toNat * 1))))), (inR IntKind.i64 (at' pa (kk.toNat * 1))), (inR IntKind.i64 ((aw - 1) * at' pa (kk.toNat * 1))), ((65535 : Int) ≠ (0 : Int)), (inR IntKind.i64 (((aw - 1) * at' pa (kk.toNat * 1)).tdiv 65535)), (inR IntKind.i64 (st + ((aw - 1) * at' pa (kk.toNat * 1)).tdiv 65535)), (2 * hf ≠ 0), (Meets cfx 0 50 [lwA nm w g y n a b r p q k, iV ((st + ((aw - 1) * at' pa (kk.toNat * 1)).tdiv (65535 : Int)).tmod (2 * hf))] (zq97 gs T cs U os W pa Z nm w g y n a b r p q k u v ax az sx sy) (V.raw (.agg { toList := [.int .i64 (M.yX y y (w - y) (g - y) ((st + ((aw - 1) * at' pa (kk.toNat * 1)).tdiv (65535 : Int)).tmod (2 * hf))), .int .i64 (M.yY y y (w - y) (g - y) ((st + ((aw - 1) * at' pa (kk.toNat * 1)).tdiv (65535 : Int)).tmod (2 * hf)))] })) (zq97 gs T cs U os W pa Z nm w g y n a b r p q k u v ax az sx sy)), (Meets cfx 0 48 [V.raw (.agg { toList := [.int .i64 (M.yX y y (w - y) (g - y) ((st + ((aw - 1) * at' pa (kk.toNat * 1)).tdiv (65535 : Int)).tmod (2 * hf))), .int .i64 (M.yY y y (w - y) (g - y) ((st + ((aw - 1) * at' pa (kk.toNat * 1)).tdiv (65535 : Int)).tmod (2 * hf)))] }), iV s, .slo 2 m] (zq97 gs T cs U os W pa Z nm w g y n a b r p q k u v ax az sx sy) (V.raw (.bool !M.tchA os m (M.yX y y (w - y) (g - y) ((st + ((aw - 1) * at' pa (kk.toNat * 1)).tdiv (65535 : Int)).tmod (2 * hf))) (M.yY y y (w - y) (g - y) ((st + ((aw - 1) * at' pa (kk.toNat * 1)).tdiv (65535 : Int)).tmod (2 * hf))) s)) (zq97 gs T cs U os W pa Z nm w g y n a b r p q k u v ax az sx sy)), ((!M.tchA os m (M.yX y y (w - y) (g - y) ((st + ((aw - 1) * at' pa (kk.toNat * 1)).tdiv (65535 : Int)).tmod (2 * hf))) (M.yY y y (w - y) (g - y) ((st + ((aw - 1) * at' pa (kk.toNat * 1)).tdiv (65535 : Int)).tmod (2 * hf))) s) = false), ((!M.tchA os m (M.yX y y (w - y) (g - y) ((st + ((aw - 1) * at' pa (kk.toNat * 1)).tdiv (65535 : Int)).tmod (2 * hf))) (M.yY y y (w - y) (g - y) ((st + ((aw - 1) * at' pa (kk.toNat * 1)).tdiv (65535 : Int)).tmod (2 * hf))) s) = false), ((!M.tchA os m (M.yX y y (w - y) (g - y) ((st + ((aw - 1) * at' pa (kk.toNat * 1)).tdiv (65535 : Int)).tmod (2 * hf))) (M.yY y y (w - y) (g - y) ((st + ((aw - 1) * at' pa (kk.toNat * 1)).tdiv (65535 : Int)).tmod (2 * hf))) s) = false), ((!M.tchA os m (M.yX y y (w - y) (g - y) ((st + ((aw - 1) * at' pa (kk.toNat * 1)).tdiv (65535 : Int)).tmod (2 * hf))) (M.yY y y (w - y) (g - y) ((st + ((aw - 1) * at' pa (kk.toNat * 1)).tdiv (65535 : Int)).tmod (2 * hf))) s) = false), (inR IntKind.i64 (st - ((aw - 1) * at' pa (kk.toNat * 1)).tdiv 65535)), ((!M.tchA os m (M.yX y y (w - y) (g - y) ((st + ((aw - 1) * at' pa (kk.toNat * 1)).tdiv (65535 : Int)).tmod (2 * hf))) (M.yY y y (w - y) (g - y) ((st + ((aw - 1) * at' pa (kk.toNat * 1)).tdiv (65535 : Int)).tmod (2 * hf))) s) = false), ((!M.tchA os m (M.yX y y (w - y) (g - y) ((st + ((aw - 1) * at' pa (kk.toNat * 1)).tdiv (65535 : Int)).tmod (2 * hf))) (M.yY y y (w - y) (g - y) ((st + ((aw - 1) * at' pa (kk.toNat * 1)).tdiv (65535 : Int)).tmod (2 * hf))) s) = false), (inR IntKind.i64 (st - ((aw - 1) * at' pa (kk.toNat * 1)).tdiv 65535 + 2 * hf)), ((!M.tchA os m (M.yX y y (w - y) (g - y) ((st + ((aw - 1) * at' pa (kk.toNat * 1)).tdiv (65535 : Int)).tmod (2 * hf))) (M.yY y y (w - y) (g - y) ((st + ((aw - 1) * at' pa (kk.toNat * 1)).tdiv (65535 : Int)).tmod (2 * hf))) s) = false), ((!M.tchA os m (M.yX y y (w - y) (g - y) ((st + ((aw - 1) * at' pa (kk.toNat * 1)).tdiv (65535 : Int)).tmod (2 * hf))) (M.yY y y (w - y) (g - y) ((st + ((aw - 1) * at' pa (kk.toNat * 1)).tdiv (65535 : Int)).tmod (2 * hf))) s) = false), (2 * hf ≠ 0), ((!M.tchA os m (M.yX y y (w - y) (g - y) ((st + ((aw - 1) * at' pa (kk.toNat * 1)).tdiv (65535 : Int)).tmod (2 * hf))) (M.yY y y (w - y) (g - y) ((st + ((aw - 1) * at' pa (kk.toNat * 1)).tdiv (65535 : Int)).tmod (2 * hf))) s) = false), (Meets cfx 0 50 [lwA nm w g y n a b r p q k, iV ((st - ((aw - 1) * at' pa (kk.toNat * 1)).tdiv 65535 + 2 * hf).tmod (2 * hf))] (zq97 gs T cs U os W pa Z nm w g y n a b r p q k u v ax az sx sy) (V.raw (.agg { toList := [.int .i64 (M.yX y y (w - y) (g - y) ((st - ((aw - 1) * at' pa (kk.toNat * 1)).tdiv 65535 + 2 * hf).tmod (2 * hf))), .int .i64 (M.yY y y (w - y) (g - y) ((st - ((aw - 1) * at' pa (kk.toNat * 1)).tdiv 65535 + 2 * hf).tmod (2 * hf)))] })) (zq97 gs T cs U os W pa Z nm w g y n a b r p q k u v ax az sx sy)), ((!M.tchA os m (M.yX y y (w - y) (g - y) ((st + ((aw - 1) * at' pa (kk.toNat * 1)).tdiv (65535 : Int)).tmod (2 * hf))) (M.yY y y (w - y) (g - y) ((st + ((aw - 1) * at' pa (kk.toNat * 1)).tdiv (65535 : Int)).tmod (2 * hf))) s) = false), ((!M.tchA os m (M.yX y y (w - y) (g - y) ((st + ((aw - 1) * at' pa (kk.toNat * 1)).tdiv (65535 : Int)).tmod (2 * hf))) (M.yY y y (w - y) (g - y) ((st + ((aw - 1) * at' pa (kk.toNat * 1)).tdiv (65535 : Int)).tmod (2 * hf))) s) = false), ((!M.tchA os m (M.yX y y (w - y) (g - y) ((st + ((aw - 1) * at' pa (kk.toNat * 1)).tdiv (65535 : Int)).tmod (2 * hf))) (M.yY y y (w - y) (g - y) ((st + ((aw - 1) * at' pa (kk.toNat * 1)).tdiv (65535 : Int)).tmod (2 * hf))) s) = false), (Meets cfx 0 48 [V.raw (.agg { toList := [.int .i64 (M.yX y y (w - y) (g - y) ((st - ((aw - 1) * at' pa (kk.toNat * 1)).tdiv 65535 + 2 * hf).tmod (2 * hf))), .int .i64 (M.yY y y (w - y) (g - y) ((st - ((aw - 1) * at' pa (kk.toNat * 1)).tdiv 65535 + 2 * hf).tmod (2 * hf)))] }), iV s, .slo 2 m] (zq97 gs T cs U os W pa Z nm w g y n a b r p q k u v ax az sx sy) (V.raw (.bool !M.tchA os m (M.yX y y (w - y) (g - y) ((st - ((aw - 1) * at' pa (kk.toNat * 1)).tdiv 65535 + 2 * hf).tmod (2 * hf))) (M.yY y y (w - y) (g - y) ((st - ((aw - 1) * at' pa (kk.toNat * 1)).tdiv 65535 + 2 * hf).tmod (2 * hf))) s)) (zq97 gs T cs U os W pa Z nm w g y n a b r p q k u v ax az sx sy)), ((!M.tchA os m (M.yX y y (w - y) (g - y) ((st + ((aw - 1) * at' pa (kk.toNat * 1)).tdiv (65535 : Int)).tmod (2 * hf))) (M.yY y y (w - y) (g - y) ((st + ((aw - 1) * at' pa (kk.toNat * 1)).tdiv (65535 : Int)).tmod (2 * hf))) s) = false), ((!M.tchA os m (M.yX y y (w - y) (g - y) ((st - ((aw - 1) * at' pa (kk.toNat * 1)).tdiv 65535 + 2 * hf).tmod (2 * hf))) (M.yY y y (w - y) (g - y) ((st - ((aw - 1) * at' pa (kk.toNat * 1)).tdiv 65535 + 2 * hf).tmod (2 * hf))) s) = false), (inR IntKind.i64 (kk + 1))]) zk
    ⟨zdo, rfl, zdo, rfl, zdo, inR_i64 (by omega) (by omega), (by omega), (load_mixk1 0 (some .u16) (by kernel_rfl) (by show _ % 1 = 0; omega) rfl (by omega)), inR_i64 (by omega) (by omega), inR_i64 (by omega) (by omega), zds, inR_i64 (by omega) (by omega), inR_i64 (by omega) (by omega), zds, (by exact below2 (lim := 0) rfl rfl 0 1 (N := []) (rnAtP nm gs cs n k T U w g y a b r p q _ hw (by omega)) (mix_all _ _) (ints_all _) rfl (fun k X h => by simp at h) rfl rfl (Nat.zero_le _)), (by exact below_ro (lim := 0) (N := []) rfl rfl (fun k => 2) (fun _ => false) (lwClear os m W _ _ _ hz (by omega) (by first |exact hpl _ (hta (by omega)).1 (hta (by omega)).2 |exact hpl _ (htb (by omega)).1 (htb (by omega)).2 |exact hka) hq2 hs2) ⟨⟨_, _, rfl, ints_all _, .inl ⟨rfl, _, rfl⟩⟩, trivial⟩ (fun _ _ => rfl) rfl rfl rfl (fun k X h => by simp at h) (Nat.zero_le _)), zdf, zdf, zdf, zdf, inR_i64 (by omega) (by omega), zdf, zdf, inR_i64 (by omega) (by omega), zdf, zdf, zds, zdf, (by exact below2 (lim := 0) rfl rfl 0 1 (N := []) (rnAtP nm gs cs n k T U w g y a b r p q _ hw (by omega)) (mix_all _ _) (ints_all _) rfl (fun k X h => by simp at h) rfl rfl (Nat.zero_le _)), zdf, zdf, zdf, (by exact below_ro (lim := 0) (N := []) rfl rfl (fun k => 2) (fun _ => false) (lwClear os m W _ _ _ hz (by omega) (by first |exact hpl _ (hta (by omega)).1 (hta (by omega)).2 |exact hpl _ (htb (by omega)).1 (htb (by omega)).2 |exact hka) hq2 hs2) ⟨⟨_, _, rfl, ints_all _, .inl ⟨rfl, _, rfl⟩⟩, trivial⟩ (fun _ _ => rfl) rfl rfl rfl (fun k X h => by simp at h) (Nat.zero_le _)), zdf, zdf, inR_i64 (by omega) (by omega), trivial⟩ (Nat.le_of_ble_eq_true rfl) (Nat.le_of_ble_eq_true rfl) noRnd (noRanges (by kernel_rfl))) (fun RT RH => reshape2 (lim := 0) 10 cfx_G rfl [] (by kernel_rfl) (by kernel_rfl) (by exact (ents_raw (mix_all _ _) rfl rfl (ents_raw (ints_all _) rfl rfl (ents_raw (ints_all _) rfl rfl (ents_raw (mixk_all _ _) rfl rfl (ents_say rfl rfl rfl rfl (ents_say rfl rfl rfl rfl (ents_say rfl rfl rfl rfl (ents_say rfl rfl rfl rfl (ents_say rfl rfl rfl rfl (ents_say rfl rfl rfl rfl (ents_nil)))))))))))) RT RH)
def frp_T4 (nm : ByteArray) (gs cs : List Int) (n k : Nat) (T U : Nat) (w g y a b r p q : Int) (os : List Int) (m : Nat) (W : Nat) (u v s : Int) (pa : List Int) (pl : Nat) (Z : Nat) (sx sy ax az hf : Int) (ib : Bool) (kk aw st : Int) : List V := (zq31 nm w g y n a b r p q k u v s m pl ib st ax az hf aw kk)
def frp_H4 (nm : ByteArray) (gs cs : List Int) (n k : Nat) (T U : Nat) (w g y a b r p q : Int) (os : List Int) (m : Nat) (W : Nat) (u v s : Int) (pa : List Int) (pl : Nat) (Z : Nat) (sx sy ax az hf : Int) (ib : Bool) (kk aw st : Int) : Heap := (zq96 gs T cs U os W pa Z nm w g y n a b r p q k u v ax az sx sy)
theorem frp_4 (os : List Int) (m : Nat) (W : Nat) (u v s : Int) (pa : List Int) (pl : Nat) (Z : Nat) (h1 : nm.size ≤ 100) (h2 : n ≤ 20) (h3 : k ≤ 300) (h4 : m ≤ 12) (hC : (zq181 nm w g y n a b r p q k gs T cs U)) (sx sy ax az hf : Int) (ib : Bool) (hpu : (zq116 nm w g y n a b r p q k u v s m gs T cs U os W ax az)) (hpn : (zq104 nm w g y n a b r p q k u v s gs T cs U sx sy)) (hsp : (zq138 nm w g y n a b r p q k u v gs T cs U sx sy ib)) (hns : (zq135 nm w g y n a b r p q k sx sy gs T cs U)) (hna : (zq136 nm w g y n a b r p q k ax az gs T cs U)) (hpc : (zq171 nm w g y n a b r p q k gs T cs U hf)) (hz : m * 3 ≤ os.length) (hzp : pl ≤ pa.length) (hka : M.okP ax az) (hcl : M.tchA os m ax az s = false) (hst : 0 ≤ (M.yNum y y (w - y) (g - y) sx sy) ∧ (M.yNum y y (w - y) (g - y) sx sy) ≤ 16777216) (hnv : 0 ≤ (M.yNum y y (w - y) (g - y) ax az) ∧ (M.yNum y y (w - y) (g - y) ax az) ≤ 16777216) (hf0 : 1 ≤ hf ∧ hf ≤ 8388608) (hd1 : 0 ≤ (((M.yNum y y (w - y) (g - y) ax az) - (M.yNum y y (w - y) (g - y) sx sy) + 2 * hf).tmod (2 * hf)) ∧ (((M.yNum y y (w - y) (g - y) ax az) - (M.yNum y y (w - y) (g - y) sx sy) + 2 * hf).tmod (2 * hf)) < 2 * hf) (hd2 : 0 ≤ (((M.yNum y y (w - y) (g - y) sx sy) - (M.yNum y y (w - y) (g - y) ax az) + 2 * hf).tmod (2 * hf)) ∧ (((M.yNum y y (w - y) (g - y) sx sy) - (M.yNum y y (w - y) (g - y) ax az) + 2 * hf).tmod (2 * hf)) < 2 * hf) (hw : (65536 ≤ w ∧ w ≤ 4194304) ∧ (65536 ≤ g ∧ g ≤ 4194304) ∧ (0 ≤ y ∧ y ≤ 1048576) ∧ 2 * y ≤ w - 2 ∧ 2 * y ≤ g - 2) (hq2 : ∀ i : Nat, i < m → M.okP (at' os (i * 3)) (at' os (i * 3 + 1)) ∧ 1 ≤ at' os (i * 3 + 2) ∧ at' os (i * 3 + 2) ≤ 16384) (hs2 : 1 ≤ s ∧ s ≤ 16384) (hpl : ∀ j : Int, 0 ≤ j → j < 2 * hf → M.okP (M.yX y y (w - y) (g - y) j) (M.yY y y (w - y) (g - y) j)) (kk aw st : Int) (hk0 : 0 ≤ kk) (hk30 : kk ≤ 30) (hwr : 0 ≤ aw ∧ aw ≤ 8388608) (hsr : 0 ≤ st ∧ st ≤ 16777216) (hpk : 0 ≤ at' pa (kk.toNat * 1) ∧ at' pa (kk.toNat * 1) ≤ 65535) (hpp : -1000000000000 ≤ (aw - 1) * at' pa (kk.toNat * 1) ∧ (aw - 1) * at' pa (kk.toNat * 1) ≤ 1000000000000) (htt : 0 < aw → (0 ≤ (((aw - 1) * at' pa (kk.toNat * 1)).tdiv 65535) ∧ (((aw - 1) * at' pa (kk.toNat * 1)).tdiv 65535) ≤ 8388608)) (hta : 0 < aw → (0 ≤ ((st + (((aw - 1) * at' pa (kk.toNat * 1)).tdiv 65535)).tmod (2 * hf)) ∧ ((st + (((aw - 1) * at' pa (kk.toNat * 1)).tdiv 65535)).tmod (2 * hf)) < 2 * hf)) (htb : 0 < aw → (0 ≤ ((st - (((aw - 1) * at' pa (kk.toNat * 1)).tdiv 65535) + 2 * hf).tmod (2 * hf)) ∧ ((st - (((aw - 1) * at' pa (kk.toNat * 1)).tdiv 65535) + 2 * hf).tmod (2 * hf)) < 2 * hf)) (f0 : kk < (pl : Int)) (f1 : kk < 30) (f2 : ¬0 < aw) : Runs cfx 0 10 none (loopOf cfx.P 10 0) (frp_T nm gs cs n k T U w g y a b r p q os m W u v s pa pl Z sx sy ax az hf ib kk aw st) (frp_H nm gs cs n k T U w g y a b r p q os m W u v s pa pl Z sx sy ax az hf ib kk aw st) (Ex.exit 0) (frp_T4 nm gs cs n k T U w g y a b r p q os m W u v s pa pl Z sx sy ax az hf ib kk aw st) (frp_H4 nm gs cs n k T U w g y a b r p q os m W u v s pa pl Z sx sy ax az hf ib kk aw st) := by
  refine Runs.post (t1 := (catV [lwA nm w g y n a b r p q k, V.raw (.agg { toList := [.int .i64 u, .int .i64 v] }), iV s, .slo 2 m, .slo 3 pl, .ptr 4 0, .ptr 5 0, uV, uV, uV, V.raw (.bool false), .ptr 7 0, iV 0, .ptr 8 0, V.raw (.bool ib), iV 0, .ptr 9 0, iV 0, iV st, iV 0, iV (M.yNum y y (w - y) (g - y) ax az), iV 0, iV (2 * hf), iV aw, iV kk] (anyR 25 99 (catV [iV kk, .slo 3 pl, iV (pl : Int), V.raw (.bool (decide (kk < (pl : Int)))), V.lit true, iV kk, V.raw (.bool (decide (kk < 30))), V.raw (.bool (decide (kk < 30))), V.lit true, iV aw, V.raw (.bool (decide (0 < aw))), V.raw (.bool (decide (0 < aw)))] (anyR 136 36 []))))) (h1 := (zq96 gs T cs U os W pa Z nm w g y n a b r p q k u v ax az sx sy)) (body_of cfx_mixed cfx_call zz (rnd := none) (fi := 0) (k := 0) (n := 40) (n0 := 10) (ans := [zT, zT, zT, zT, zF]) (cons := [(decide (kk < (pl : Int)) = true), (true = true), (decide (kk < 30) = true), (true = true), (decide (0 < aw) = false)]) zk
    ⟨zdo, rfl, zdo, rfl, zdo, trivial⟩ zb zb noRnd (noRanges zk)) zt12
def frp_T5 (nm : ByteArray) (gs cs : List Int) (n k : Nat) (T U : Nat) (w g y a b r p q : Int) (os : List Int) (m : Nat) (W : Nat) (u v s : Int) (pa : List Int) (pl : Nat) (Z : Nat) (sx sy ax az hf : Int) (ib : Bool) (kk aw st : Int) : List V := (zq31 nm w g y n a b r p q k u v s m pl ib st ax az hf aw kk)
def frp_H5 (nm : ByteArray) (gs cs : List Int) (n k : Nat) (T U : Nat) (w g y a b r p q : Int) (os : List Int) (m : Nat) (W : Nat) (u v s : Int) (pa : List Int) (pl : Nat) (Z : Nat) (sx sy ax az hf : Int) (ib : Bool) (kk aw st : Int) : Heap := (zq96 gs T cs U os W pa Z nm w g y n a b r p q k u v ax az sx sy)
theorem frp_5 (os : List Int) (m : Nat) (W : Nat) (u v s : Int) (pa : List Int) (pl : Nat) (Z : Nat) (h1 : nm.size ≤ 100) (h2 : n ≤ 20) (h3 : k ≤ 300) (h4 : m ≤ 12) (hC : (zq181 nm w g y n a b r p q k gs T cs U)) (sx sy ax az hf : Int) (ib : Bool) (hpu : (zq116 nm w g y n a b r p q k u v s m gs T cs U os W ax az)) (hpn : (zq104 nm w g y n a b r p q k u v s gs T cs U sx sy)) (hsp : (zq138 nm w g y n a b r p q k u v gs T cs U sx sy ib)) (hns : (zq135 nm w g y n a b r p q k sx sy gs T cs U)) (hna : (zq136 nm w g y n a b r p q k ax az gs T cs U)) (hpc : (zq171 nm w g y n a b r p q k gs T cs U hf)) (hz : m * 3 ≤ os.length) (hzp : pl ≤ pa.length) (hka : M.okP ax az) (hcl : M.tchA os m ax az s = false) (hst : 0 ≤ (M.yNum y y (w - y) (g - y) sx sy) ∧ (M.yNum y y (w - y) (g - y) sx sy) ≤ 16777216) (hnv : 0 ≤ (M.yNum y y (w - y) (g - y) ax az) ∧ (M.yNum y y (w - y) (g - y) ax az) ≤ 16777216) (hf0 : 1 ≤ hf ∧ hf ≤ 8388608) (hd1 : 0 ≤ (((M.yNum y y (w - y) (g - y) ax az) - (M.yNum y y (w - y) (g - y) sx sy) + 2 * hf).tmod (2 * hf)) ∧ (((M.yNum y y (w - y) (g - y) ax az) - (M.yNum y y (w - y) (g - y) sx sy) + 2 * hf).tmod (2 * hf)) < 2 * hf) (hd2 : 0 ≤ (((M.yNum y y (w - y) (g - y) sx sy) - (M.yNum y y (w - y) (g - y) ax az) + 2 * hf).tmod (2 * hf)) ∧ (((M.yNum y y (w - y) (g - y) sx sy) - (M.yNum y y (w - y) (g - y) ax az) + 2 * hf).tmod (2 * hf)) < 2 * hf) (hw : (65536 ≤ w ∧ w ≤ 4194304) ∧ (65536 ≤ g ∧ g ≤ 4194304) ∧ (0 ≤ y ∧ y ≤ 1048576) ∧ 2 * y ≤ w - 2 ∧ 2 * y ≤ g - 2) (hq2 : ∀ i : Nat, i < m → M.okP (at' os (i * 3)) (at' os (i * 3 + 1)) ∧ 1 ≤ at' os (i * 3 + 2) ∧ at' os (i * 3 + 2) ≤ 16384) (hs2 : 1 ≤ s ∧ s ≤ 16384) (hpl : ∀ j : Int, 0 ≤ j → j < 2 * hf → M.okP (M.yX y y (w - y) (g - y) j) (M.yY y y (w - y) (g - y) j)) (kk aw st : Int) (hk0 : 0 ≤ kk) (hk30 : kk ≤ 30) (hwr : 0 ≤ aw ∧ aw ≤ 8388608) (hsr : 0 ≤ st ∧ st ≤ 16777216) (hpk : 0 ≤ at' pa (kk.toNat * 1) ∧ at' pa (kk.toNat * 1) ≤ 65535) (hpp : -1000000000000 ≤ (aw - 1) * at' pa (kk.toNat * 1) ∧ (aw - 1) * at' pa (kk.toNat * 1) ≤ 1000000000000) (htt : 0 < aw → (0 ≤ (((aw - 1) * at' pa (kk.toNat * 1)).tdiv 65535) ∧ (((aw - 1) * at' pa (kk.toNat * 1)).tdiv 65535) ≤ 8388608)) (hta : 0 < aw → (0 ≤ ((st + (((aw - 1) * at' pa (kk.toNat * 1)).tdiv 65535)).tmod (2 * hf)) ∧ ((st + (((aw - 1) * at' pa (kk.toNat * 1)).tdiv 65535)).tmod (2 * hf)) < 2 * hf)) (htb : 0 < aw → (0 ≤ ((st - (((aw - 1) * at' pa (kk.toNat * 1)).tdiv 65535) + 2 * hf).tmod (2 * hf)) ∧ ((st - (((aw - 1) * at' pa (kk.toNat * 1)).tdiv 65535) + 2 * hf).tmod (2 * hf)) < 2 * hf)) (f0 : kk < (pl : Int)) (f1 : ¬kk < 30) : Runs cfx 0 10 none (loopOf cfx.P 10 0) (frp_T nm gs cs n k T U w g y a b r p q os m W u v s pa pl Z sx sy ax az hf ib kk aw st) (frp_H nm gs cs n k T U w g y a b r p q os m W u v s pa pl Z sx sy ax az hf ib kk aw st) (Ex.exit 0) (frp_T5 nm gs cs n k T U w g y a b r p q os m W u v s pa pl Z sx sy ax az hf ib kk aw st) (frp_H5 nm gs cs n k T U w g y a b r p q os m W u v s pa pl Z sx sy ax az hf ib kk aw st) := by
  refine Runs.post (t1 := (catV [lwA nm w g y n a b r p q k, V.raw (.agg { toList := [.int .i64 u, .int .i64 v] }), iV s, .slo 2 m, .slo 3 pl, .ptr 4 0, .ptr 5 0, uV, uV, uV, V.raw (.bool false), .ptr 7 0, iV 0, .ptr 8 0, V.raw (.bool ib), iV 0, .ptr 9 0, iV 0, iV st, iV 0, iV (M.yNum y y (w - y) (g - y) ax az), iV 0, iV (2 * hf), iV aw, iV kk] (anyR 25 99 (catV [iV kk, .slo 3 pl, iV (pl : Int), V.raw (.bool (decide (kk < (pl : Int)))), V.lit true, iV kk, V.raw (.bool (decide (kk < 30))), V.raw (.bool (decide (kk < 30))), V.lit false, uV, uV, V.raw (.bool false)] (anyR 136 36 []))))) (h1 := (zq96 gs T cs U os W pa Z nm w g y n a b r p q k u v ax az sx sy)) (body_of cfx_mixed cfx_call zz (rnd := none) (fi := 0) (k := 0) (n := 40) (n0 := 10) (ans := [zT, zT, zF, zF, zF]) (cons := [(decide (kk < (pl : Int)) = true), (true = true), (decide (kk < 30) = false), (false = false), (false = false)]) zk
    ⟨zdo, rfl, zdo, rfl, rfl, trivial⟩ zb zb noRnd (noRanges zk)) zt12
def frp_T6 (nm : ByteArray) (gs cs : List Int) (n k : Nat) (T U : Nat) (w g y a b r p q : Int) (os : List Int) (m : Nat) (W : Nat) (u v s : Int) (pa : List Int) (pl : Nat) (Z : Nat) (sx sy ax az hf : Int) (ib : Bool) (kk aw st : Int) : List V := (zq31 nm w g y n a b r p q k u v s m pl ib st ax az hf aw kk)
def frp_H6 (nm : ByteArray) (gs cs : List Int) (n k : Nat) (T U : Nat) (w g y a b r p q : Int) (os : List Int) (m : Nat) (W : Nat) (u v s : Int) (pa : List Int) (pl : Nat) (Z : Nat) (sx sy ax az hf : Int) (ib : Bool) (kk aw st : Int) : Heap := (zq96 gs T cs U os W pa Z nm w g y n a b r p q k u v ax az sx sy)
theorem frp_6 (os : List Int) (m : Nat) (W : Nat) (u v s : Int) (pa : List Int) (pl : Nat) (Z : Nat) (h1 : nm.size ≤ 100) (h2 : n ≤ 20) (h3 : k ≤ 300) (h4 : m ≤ 12) (hC : (zq181 nm w g y n a b r p q k gs T cs U)) (sx sy ax az hf : Int) (ib : Bool) (hpu : (zq116 nm w g y n a b r p q k u v s m gs T cs U os W ax az)) (hpn : (zq104 nm w g y n a b r p q k u v s gs T cs U sx sy)) (hsp : (zq138 nm w g y n a b r p q k u v gs T cs U sx sy ib)) (hns : (zq135 nm w g y n a b r p q k sx sy gs T cs U)) (hna : (zq136 nm w g y n a b r p q k ax az gs T cs U)) (hpc : (zq171 nm w g y n a b r p q k gs T cs U hf)) (hz : m * 3 ≤ os.length) (hzp : pl ≤ pa.length) (hka : M.okP ax az) (hcl : M.tchA os m ax az s = false) (hst : 0 ≤ (M.yNum y y (w - y) (g - y) sx sy) ∧ (M.yNum y y (w - y) (g - y) sx sy) ≤ 16777216) (hnv : 0 ≤ (M.yNum y y (w - y) (g - y) ax az) ∧ (M.yNum y y (w - y) (g - y) ax az) ≤ 16777216) (hf0 : 1 ≤ hf ∧ hf ≤ 8388608) (hd1 : 0 ≤ (((M.yNum y y (w - y) (g - y) ax az) - (M.yNum y y (w - y) (g - y) sx sy) + 2 * hf).tmod (2 * hf)) ∧ (((M.yNum y y (w - y) (g - y) ax az) - (M.yNum y y (w - y) (g - y) sx sy) + 2 * hf).tmod (2 * hf)) < 2 * hf) (hd2 : 0 ≤ (((M.yNum y y (w - y) (g - y) sx sy) - (M.yNum y y (w - y) (g - y) ax az) + 2 * hf).tmod (2 * hf)) ∧ (((M.yNum y y (w - y) (g - y) sx sy) - (M.yNum y y (w - y) (g - y) ax az) + 2 * hf).tmod (2 * hf)) < 2 * hf) (hw : (65536 ≤ w ∧ w ≤ 4194304) ∧ (65536 ≤ g ∧ g ≤ 4194304) ∧ (0 ≤ y ∧ y ≤ 1048576) ∧ 2 * y ≤ w - 2 ∧ 2 * y ≤ g - 2) (hq2 : ∀ i : Nat, i < m → M.okP (at' os (i * 3)) (at' os (i * 3 + 1)) ∧ 1 ≤ at' os (i * 3 + 2) ∧ at' os (i * 3 + 2) ≤ 16384) (hs2 : 1 ≤ s ∧ s ≤ 16384) (hpl : ∀ j : Int, 0 ≤ j → j < 2 * hf → M.okP (M.yX y y (w - y) (g - y) j) (M.yY y y (w - y) (g - y) j)) (kk aw st : Int) (hk0 : 0 ≤ kk) (hk30 : kk ≤ 30) (hwr : 0 ≤ aw ∧ aw ≤ 8388608) (hsr : 0 ≤ st ∧ st ≤ 16777216) (hpk : 0 ≤ at' pa (kk.toNat * 1) ∧ at' pa (kk.toNat * 1) ≤ 65535) (hpp : -1000000000000 ≤ (aw - 1) * at' pa (kk.toNat * 1) ∧ (aw - 1) * at' pa (kk.toNat * 1) ≤ 1000000000000) (htt : 0 < aw → (0 ≤ (((aw - 1) * at' pa (kk.toNat * 1)).tdiv 65535) ∧ (((aw - 1) * at' pa (kk.toNat * 1)).tdiv 65535) ≤ 8388608)) (hta : 0 < aw → (0 ≤ ((st + (((aw - 1) * at' pa (kk.toNat * 1)).tdiv 65535)).tmod (2 * hf)) ∧ ((st + (((aw - 1) * at' pa (kk.toNat * 1)).tdiv 65535)).tmod (2 * hf)) < 2 * hf)) (htb : 0 < aw → (0 ≤ ((st - (((aw - 1) * at' pa (kk.toNat * 1)).tdiv 65535) + 2 * hf).tmod (2 * hf)) ∧ ((st - (((aw - 1) * at' pa (kk.toNat * 1)).tdiv 65535) + 2 * hf).tmod (2 * hf)) < 2 * hf)) (f0 : ¬kk < (pl : Int)) : Runs cfx 0 10 none (loopOf cfx.P 10 0) (frp_T nm gs cs n k T U w g y a b r p q os m W u v s pa pl Z sx sy ax az hf ib kk aw st) (frp_H nm gs cs n k T U w g y a b r p q os m W u v s pa pl Z sx sy ax az hf ib kk aw st) (Ex.exit 0) (frp_T6 nm gs cs n k T U w g y a b r p q os m W u v s pa pl Z sx sy ax az hf ib kk aw st) (frp_H6 nm gs cs n k T U w g y a b r p q os m W u v s pa pl Z sx sy ax az hf ib kk aw st) := by
  refine Runs.post (t1 := (catV [lwA nm w g y n a b r p q k, V.raw (.agg { toList := [.int .i64 u, .int .i64 v] }), iV s, .slo 2 m, .slo 3 pl, .ptr 4 0, .ptr 5 0, uV, uV, uV, V.raw (.bool false), .ptr 7 0, iV 0, .ptr 8 0, V.raw (.bool ib), iV 0, .ptr 9 0, iV 0, iV st, iV 0, iV (M.yNum y y (w - y) (g - y) ax az), iV 0, iV (2 * hf), iV aw, iV kk] (anyR 25 99 (catV [iV kk, .slo 3 pl, iV (pl : Int), V.raw (.bool (decide (kk < (pl : Int)))), V.lit false, uV, uV, V.raw (.bool false), V.lit false, uV, uV, V.raw (.bool false)] (anyR 136 36 []))))) (h1 := (zq96 gs T cs U os W pa Z nm w g y n a b r p q k u v ax az sx sy)) (body_of cfx_mixed cfx_call zz (rnd := none) (fi := 0) (k := 0) (n := 40) (n0 := 10) (ans := [zF, zF, zF, zF, zF]) (cons := [(decide (kk < (pl : Int)) = false), (false = false), (false = false), (false = false), (false = false)]) zk
    ⟨zdo, rfl, rfl, rfl, rfl, trivial⟩ zb zb noRnd (noRanges zk)) zt12
end Go.Proofs.Ytmelbcmfahcffaa
end
section
namespace Go.Proofs.Ytmelbcmfahcffaa
open Go Go.RowKit Go.Proofs.Ytmelbcmfahcffaa.E2
variable (nm : ByteArray) (gs cs : List Int) (n k : Nat) (T U : Nat) (w g y a b r p q : Int)
theorem M.part_bd {a p : Int} (ha : 0 ≤ a) (hp : 0 ≤ p ∧ p ≤ 65535) : 0 ≤ (a * p).tdiv 65535 ∧ (a * p).tdiv 65535 ≤ a := by
  have m1 : 0 ≤ a * p := Int.mul_nonneg ha hp.1
  have m2 : a * p ≤ a * 65535 := Int.mul_le_mul_of_nonneg_left hp.2 ha
  rw [Int.tdiv_eq_ediv_of_nonneg m1]
  omega
theorem frp_loop (os : List Int) (m : Nat) (W : Nat) (u v s : Int) (pa : List Int) (pl : Nat) (Z : Nat) (h1 : nm.size ≤ 100) (h2 : n ≤ 20) (h3 : k ≤ 300) (h4 : m ≤ 12) (hC : (zq181 nm w g y n a b r p q k gs T cs U)) (sx sy ax az hf : Int) (ib : Bool) (hpu : (zq116 nm w g y n a b r p q k u v s m gs T cs U os W ax az)) (hpn : (zq104 nm w g y n a b r p q k u v s gs T cs U sx sy)) (hsp : (zq138 nm w g y n a b r p q k u v gs T cs U sx sy ib)) (hns : (zq135 nm w g y n a b r p q k sx sy gs T cs U)) (hna : (zq136 nm w g y n a b r p q k ax az gs T cs U)) (hpc : (zq171 nm w g y n a b r p q k gs T cs U hf)) (hz : m * 3 ≤ os.length) (hzp : pl ≤ pa.length) (hka : M.okP ax az) (hcl : M.tchA os m ax az s = false) (hst : 0 ≤ (M.yNum y y (w - y) (g - y) sx sy) ∧ (M.yNum y y (w - y) (g - y) sx sy) ≤ 16777216) (hnv : 0 ≤ (M.yNum y y (w - y) (g - y) ax az) ∧ (M.yNum y y (w - y) (g - y) ax az) ≤ 16777216) (hf0 : 1 ≤ hf ∧ hf ≤ 8388608) (hd1 : 0 ≤ (((M.yNum y y (w - y) (g - y) ax az) - (M.yNum y y (w - y) (g - y) sx sy) + 2 * hf).tmod (2 * hf)) ∧ (((M.yNum y y (w - y) (g - y) ax az) - (M.yNum y y (w - y) (g - y) sx sy) + 2 * hf).tmod (2 * hf)) < 2 * hf) (hd2 : 0 ≤ (((M.yNum y y (w - y) (g - y) sx sy) - (M.yNum y y (w - y) (g - y) ax az) + 2 * hf).tmod (2 * hf)) ∧ (((M.yNum y y (w - y) (g - y) sx sy) - (M.yNum y y (w - y) (g - y) ax az) + 2 * hf).tmod (2 * hf)) < 2 * hf) (hw : (65536 ≤ w ∧ w ≤ 4194304) ∧ (65536 ≤ g ∧ g ≤ 4194304) ∧ (0 ≤ y ∧ y ≤ 1048576) ∧ 2 * y ≤ w - 2 ∧ 2 * y ≤ g - 2) (hq2 : ∀ i : Nat, i < m → M.okP (at' os (i * 3)) (at' os (i * 3 + 1)) ∧ 1 ≤ at' os (i * 3 + 2) ∧ at' os (i * 3 + 2) ≤ 16384) (hs2 : 1 ≤ s ∧ s ≤ 16384) (hpl : ∀ j : Int, 0 ≤ j → j < 2 * hf → M.okP (M.yX y y (w - y) (g - y) j) (M.yY y y (w - y) (g - y) j)) (hpa : pa.length = pl) (hpr : ∀ j : Nat, j < pl → 0 ≤ at' pa j ∧ at' pa j ≤ 65535) (i : Nat) (st : Int) (hi : (i : Int) ≤ hf) (hst2 : 0 ≤ st ∧ st < 2 * hf) (hlt : ∀ j : Nat, j < i → M.tchA os m (M.yX y y (w - y) (g - y) ((st + (j : Int)).tmod (2 * hf))) (M.yY y y (w - y) (g - y) ((st + (j : Int)).tmod (2 * hf))) s = true ∧ M.tchA os m (M.yX y y (w - y) (g - y) ((st - (j : Int) + 2 * hf).tmod (2 * hf))) (M.yY y y (w - y) (g - y) ((st - (j : Int) + 2 * hf).tmod (2 * hf))) s = true) : ∃ kk : Int, (Runs cfx 0 10 none (.loop (loopOf cfx.P 10 0)) (frp_T nm gs cs n k T U w g y a b r p q os m W u v s pa pl Z sx sy ax az hf ib 0 (i : Int) st) (frp_H nm gs cs n k T U w g y a b r p q os m W u v s pa pl Z sx sy ax az hf ib 0 (i : Int) st) (.exit 0) (frp_T4 nm gs cs n k T U w g y a b r p q os m W u v s pa pl Z sx sy ax az hf ib kk (i : Int) st) (frp_H4 nm gs cs n k T U w g y a b r p q os m W u v s pa pl Z sx sy ax az hf ib kk (i : Int) st)) ∨ (Runs cfx 0 10 none (.loop (loopOf cfx.P 10 0)) (frp_T nm gs cs n k T U w g y a b r p q os m W u v s pa pl Z sx sy ax az hf ib 0 (i : Int) st) (frp_H nm gs cs n k T U w g y a b r p q os m W u v s pa pl Z sx sy ax az hf ib 0 (i : Int) st) (.exit 0) (frp_T5 nm gs cs n k T U w g y a b r p q os m W u v s pa pl Z sx sy ax az hf ib kk (i : Int) st) (frp_H5 nm gs cs n k T U w g y a b r p q os m W u v s pa pl Z sx sy ax az hf ib kk (i : Int) st)) ∨ (Runs cfx 0 10 none (.loop (loopOf cfx.P 10 0)) (frp_T nm gs cs n k T U w g y a b r p q os m W u v s pa pl Z sx sy ax az hf ib 0 (i : Int) st) (frp_H nm gs cs n k T U w g y a b r p q os m W u v s pa pl Z sx sy ax az hf ib 0 (i : Int) st) (.exit 0) (frp_T6 nm gs cs n k T U w g y a b r p q os m W u v s pa pl Z sx sy ax az hf ib kk (i : Int) st) (frp_H6 nm gs cs n k T U w g y a b r p q os m W u v s pa pl Z sx sy ax az hf ib kk (i : Int) st)) := by
  have hpk : ∀ kk : Int, 0 ≤ at' pa (kk.toNat * 1) ∧ at' pa (kk.toNat * 1) ≤ 65535 := fun kk => by
    rw [Nat.mul_one]
    by_cases h : kk.toNat < pl
    · exact hpr _ h
    · rw [M.at_out (by omega)]; omega
  have hpp : ∀ kk : Int, -1000000000000 ≤ ((i : Int) - 1) * at' pa (kk.toNat * 1) ∧ ((i : Int) - 1) * at' pa (kk.toNat * 1) ≤ 1000000000000 := fun kk => by
    have := M.mul_bd ((i : Int) - 1) (at' pa (kk.toNat * 1)) 8388608 65535 zo zo (by have := hpk kk; omega) (hpk kk).2
    omega
  have htt : ∀ kk : Int, 0 < (i : Int) → 0 ≤ (((i : Int) - 1) * at' pa (kk.toNat * 1)).tdiv 65535 ∧ (((i : Int) - 1) * at' pa (kk.toNat * 1)).tdiv 65535 ≤ (i : Int) - 1 := fun kk h => M.part_bd zo (hpk kk)
  have htt2 : ∀ kk : Int, 0 < (i : Int) → 0 ≤ (((i : Int) - 1) * at' pa (kk.toNat * 1)).tdiv 65535 ∧ (((i : Int) - 1) * at' pa (kk.toNat * 1)).tdiv 65535 ≤ 8388608 := fun kk h => by have := htt kk h; omega
  have hta : ∀ kk : Int, 0 < (i : Int) → 0 ≤ (st + (((i : Int) - 1) * at' pa (kk.toNat * 1)).tdiv 65535).tmod (2 * hf) ∧ (st + (((i : Int) - 1) * at' pa (kk.toNat * 1)).tdiv 65535).tmod (2 * hf) < 2 * hf := fun kk h => tmod_in (by have := htt kk h; omega) zo
  have htb : ∀ kk : Int, 0 < (i : Int) → 0 ≤ (st - (((i : Int) - 1) * at' pa (kk.toNat * 1)).tdiv 65535 + 2 * hf).tmod (2 * hf) ∧ (st - (((i : Int) - 1) * at' pa (kk.toNat * 1)).tdiv 65535 + 2 * hf).tmod (2 * hf) < 2 * hf := fun kk h => tmod_in (by have := htt kk h; omega) zo
  by_cases c0 : pl = 0
  · refine ⟨0, .inr (.inr ?_)⟩
    exact upto (c := cfx) (lim := 0) (n0 := 10) (x := loopOf cfx.P 10 0) noRnd (fun j : Nat => frp_T nm gs cs n k T U w g y a b r p q os m W u v s pa pl Z sx sy ax az hf ib j i st) (fun j : Nat => frp_H nm gs cs n k T U w g y a b r p q os m W u v s pa pl Z sx sy ax az hf ib j i st) 0 (e := .exit 0) (by simp) (fun j hj => by omega)
      (frp_6 nm gs cs n k T U w g y a b r p q os m W u v s pa pl Z h1 h2 h3 h4 hC sx sy ax az hf ib hpu hpn hsp hns hna hpc hz hzp hka hcl hst hnv hf0 hd1 hd2 hw hq2 hs2 hpl 0 i st zo zo zo zo (hpk 0) (hpp 0) (htt2 0) (hta 0) (htb 0) zo)
  by_cases c1 : i = 0
  · refine ⟨0, .inl ?_⟩
    exact upto (c := cfx) (lim := 0) (n0 := 10) (x := loopOf cfx.P 10 0) noRnd (fun j : Nat => frp_T nm gs cs n k T U w g y a b r p q os m W u v s pa pl Z sx sy ax az hf ib j i st) (fun j : Nat => frp_H nm gs cs n k T U w g y a b r p q os m W u v s pa pl Z sx sy ax az hf ib j i st) 0 (e := .exit 0) (by simp) (fun j hj => by omega)
      (frp_4 nm gs cs n k T U w g y a b r p q os m W u v s pa pl Z h1 h2 h3 h4 hC sx sy ax az hf ib hpu hpn hsp hns hna hpc hz hzp hka hcl hst hnv hf0 hd1 hd2 hw hq2 hs2 hpl 0 i st zo zo zo zo (hpk 0) (hpp 0) (htt2 0) (hta 0) (htb 0) zo zo zo)
  have hstep : ∀ j : Nat, j < pl → j < 30 → Runs cfx 0 10 none (loopOf cfx.P 10 0) (frp_T nm gs cs n k T U w g y a b r p q os m W u v s pa pl Z sx sy ax az hf ib j i st) (frp_H nm gs cs n k T U w g y a b r p q os m W u v s pa pl Z sx sy ax az hf ib j i st) .normal (frp_T nm gs cs n k T U w g y a b r p q os m W u v s pa pl Z sx sy ax az hf ib (j + 1 : Nat) i st) (frp_H nm gs cs n k T U w g y a b r p q os m W u v s pa pl Z sx sy ax az hf ib (j + 1 : Nat) i st) := fun j hj hj2 => by
    have ht := htt (j : Int) zo
    obtain ⟨k1, k2⟩ := hlt ((((i : Int) - 1) * at' pa ((j : Int).toNat * 1)).tdiv 65535).toNat zo
    rw [Int.toNat_of_nonneg ht.1] at k1 k2
    exact frp_3 nm gs cs n k T U w g y a b r p q os m W u v s pa pl Z h1 h2 h3 h4 hC sx sy ax az hf ib hpu hpn hsp hns hna hpc hz hzp hka hcl hst hnv hf0 hd1 hd2 hw hq2 hs2 hpl j i st zo zo zo zo (hpk j) (hpp j) (htt2 j) (hta j) (htb j) zo zo zo k1 k2
  by_cases c2 : pl < 30
  · refine ⟨(pl : Int), .inr (.inr ?_)⟩
    exact upto (c := cfx) (lim := 0) (n0 := 10) (x := loopOf cfx.P 10 0) noRnd (fun j : Nat => frp_T nm gs cs n k T U w g y a b r p q os m W u v s pa pl Z sx sy ax az hf ib j i st) (fun j : Nat => frp_H nm gs cs n k T U w g y a b r p q os m W u v s pa pl Z sx sy ax az hf ib j i st) pl (e := .exit 0) (by simp) (fun j hj => hstep j hj zo)
      (frp_6 nm gs cs n k T U w g y a b r p q os m W u v s pa pl Z h1 h2 h3 h4 hC sx sy ax az hf ib hpu hpn hsp hns hna hpc hz hzp hka hcl hst hnv hf0 hd1 hd2 hw hq2 hs2 hpl pl i st zo zo zo zo (hpk pl) (hpp pl) (htt2 pl) (hta pl) (htb pl) zo)
  by_cases c3 : pl = 30
  · refine ⟨(pl : Int), .inr (.inr ?_)⟩
    exact upto (c := cfx) (lim := 0) (n0 := 10) (x := loopOf cfx.P 10 0) noRnd (fun j : Nat => frp_T nm gs cs n k T U w g y a b r p q os m W u v s pa pl Z sx sy ax az hf ib j i st) (fun j : Nat => frp_H nm gs cs n k T U w g y a b r p q os m W u v s pa pl Z sx sy ax az hf ib j i st) pl (e := .exit 0) (by simp) (fun j hj => hstep j hj zo)
      (frp_6 nm gs cs n k T U w g y a b r p q os m W u v s pa pl Z h1 h2 h3 h4 hC sx sy ax az hf ib hpu hpn hsp hns hna hpc hz hzp hka hcl hst hnv hf0 hd1 hd2 hw hq2 hs2 hpl pl i st zo zo zo zo (hpk pl) (hpp pl) (htt2 pl) (hta pl) (htb pl) zo)
  · refine ⟨((30 : Nat) : Int), .inr (.inl ?_)⟩
    exact upto (c := cfx) (lim := 0) (n0 := 10) (x := loopOf cfx.P 10 0) noRnd (fun j : Nat => frp_T nm gs cs n k T U w g y a b r p q os m W u v s pa pl Z sx sy ax az hf ib j i st) (fun j : Nat => frp_H nm gs cs n k T U w g y a b r p q os m W u v s pa pl Z sx sy ax az hf ib j i st) 30 (e := .exit 0) (by simp) (fun j hj => hstep j zo hj)
      (frp_5 nm gs cs n k T U w g y a b r p q os m W u v s pa pl Z h1 h2 h3 h4 hC sx sy ax az hf ib hpu hpn hsp hns hna hpc hz hzp hka hcl hst hnv hf0 hd1 hd2 hw hq2 hs2 hpl 30 i st zo zo zo zo (hpk _) (hpp _) (htt2 _) (hta _) (htb _) zo zo)
end Go.Proofs.Ytmelbcmfahcffaa
end
section
namespace Go.Proofs.Ytmelbcmfahcffaa
open Go Go.RowKit Go.Proofs.Ytmelbcmfahcffaa.E2
theorem new_one (z : Int) (T : TypeId) (ow : Own) (h1 : (Blk.cells [.raw (.int .i64 z)] T ow).wr = true := by rfl) : ∀ (k : Nat) (X : Blk), ([some (Blk.cells [.raw (.int .i64 z)] T ow)] : Heap)[k]? = some (some X) → X.wr = true ∧ ∃ cs ty own, X = .cells cs ty own ∧ cs.all isRawV = true := fun k X h => by
  match k with
  | 0 =>
    simp only [List.getElem?_cons_zero, Option.some.injEq] at h
    subst h
    exact ⟨h1, _, _, _, rfl, rfl⟩
  | k + 1 => simp at h
abbrev zq209 : List V := [V.raw (Value.string { data := #[(103 : UInt8), (114 : UInt8), (101 : UInt8), (101 : UInt8), (110 : UInt8)] }), iV 100000, iV 200000, iV 5000, .slo 1 2, iV 50000, iV 100000, iV 1200, iV 2, iV 1, .slo 2 2]
abbrev zq212 : List V := [iV 50000, iV 40000, iV 6000, iV 500, V.raw (.bool false), iV 30000, iV 100000, iV 6000, iV 500, V.raw (.bool true)]
abbrev zq41 : Heap := [some (.cells (zq209) 29 .rw), some (.cells (zq212) 71 (.row 5)), some (.cells [iV 100, iV 0, iV 0, iV 200, iV 5, iV (-5)] 39 (.row 3)), some (.cells (zq209) 29 .rw), some (.cells [iV 0] 3 (.row 1)), some (.cells [iV 5000, iV 70000, iV 2946] 26 (.row 3))]
abbrev zq44 : Heap := [some (.cells (zq209) 29 .rw), some (.cells (zq212) 71 (.row 5)), some (.cells [iV 100, iV 0, iV 0, iV 200, iV 5, iV (-5)] 39 (.row 3)), some (.cells (zq209) 29 .rw), some (.cells [iV 0] 3 (.row 1))]
abbrev zq137 : List V := (zq209)
abbrev zq168 : List V := (zq212)
theorem lnWorks   : Meets cfx 0 13 [] [] (V.raw (.bool true)) [] := by
  refine Meets.post (meets_ev cfx_mixed cfx_call zz zb (n := 40) (ans := [Ans.go, Ans.go, Ans.reth (V.tup [.slo 4 1, iV 0]) (zq44), Ans.reth (V.raw (.tuple { toList := [.int .i64 3, .int .i64 0] })) (zq44), Ans.reth (V.raw (.tuple { toList := [.agg { toList := [.int .i64 5000, .int .i64 64108] }, .int .i64 0] })) (zq41), zT, zT, zT, zT, zT, zT, zT, zT]) (v := V.raw (.bool true)) (h' := [some (.cells (zq137) 29 .rw), some (.cells (zq168) 71 (.row 5)), some (.cells [iV 100, iV 0, iV 0, iV 200, iV 5, iV (-5)] 39 (.row 3)), some (.cells (zq137) 29 .rw), some (.cells [iV 0] 3 (.row 1)), some (.cells [iV 5000, iV 70000, iV 2946] 26 (.row 3)), bkP 5000 64108]) (cons := [(2 ≤ 9223372036854775807), (2 ≤ 9223372036854775807), (Meets cfx 0 28 [V.agg (zq137), V.raw (.agg { toList := [.int .i64 49900, .int .i64 30000] }), V.raw (.agg { toList := [.int .i64 49900, .int .i64 50000] }), iV 2946, V.raw (Value.slice none 0 0)] [some (.cells (zq137) 29 .rw), some (.cells (zq168) 71 (.row 5)), some (.cells [iV 100, iV 0, iV 0, iV 200, iV 5, iV (-5)] 39 (.row 3)), some (.cells (zq137) 29 .rw)] (V.tup [.slo 4 1, iV 0]) (zq44)), (Meets cfx 0 37 [V.agg (zq137), iV 0, V.raw (.bool true), V.raw (.agg { toList := [.int .i64 50000, .int .i64 42446] }), iV 2946] (zq44) (V.raw (.tuple { toList := [.int .i64 3, .int .i64 0] })) (zq44)), (1 ≤ 9223372036854775807), (Meets cfx 0 39 [V.agg (zq137), V.raw (.agg { toList := [.int .i64 1000, .int .i64 70000] }), iV 2946, .slo 5 1] (zq41) (V.raw (.tuple { toList := [.agg { toList := [.int .i64 5000, .int .i64 64108] }, .int .i64 0] })) (zq41)), (inR IntKind.i64 0), (inR IntKind.i64 0), (true = true), (true = true), (true = true), ((0 : Int) ≤ (0 : Int) ∧ (0 : Int) < (1 : Int)), (true = true), (true = true), (true = true), (true = true), (true = true)]) zk
    ⟨zds, zds, (by exact below_ro (lim := 0) (N := [some (.cells [.raw (.int .i64 0)] 3 (.row 1))]) rfl rfl (fun k => if k = 0 then 1 else if k = 1 then 2 else 0) (fun k => k == 2) (ex_InWay _ (Nat.le_of_ble_eq_true zk) zk) ⟨⟨_, _, rfl, rfl, .inl ⟨rfl, _, rfl⟩⟩, ⟨_, _, rfl, rfl, .inl ⟨rfl, _, rfl⟩⟩, ⟨_, _, rfl, rfl, .inr ⟨rfl, rfl⟩⟩, trivial⟩ (fun k hk => by have hk2 : 3 ≤ k := hk; simp; omega) rfl rfl rfl (new_one _ _ _) zz), (by exact below_ro (lim := 0) (N := []) rfl rfl (fun k => if k = 0 then 1 else 2) (fun _ => false) (ex_Stand _ (Nat.le_of_ble_eq_true zk) zk) ⟨⟨_, _, rfl, rfl, .inl ⟨rfl, _, rfl⟩⟩, ⟨_, _, rfl, rfl, .inl ⟨rfl, _, rfl⟩⟩, trivial⟩ (fun _ _ => rfl) rfl rfl rfl (fun k X h => by simp at h) zz), zds, (by exact below_ro (lim := 0) (N := []) rfl rfl (fun k => if k = 0 then 1 else if k = 1 then 2 else 5) (fun _ => false) (ex_Put _ (Nat.le_of_ble_eq_true zk) zk) ⟨⟨_, _, rfl, rfl, .inl ⟨rfl, _, rfl⟩⟩, ⟨_, _, rfl, rfl, .inl ⟨rfl, _, rfl⟩⟩, ⟨_, _, rfl, rfl, .inl ⟨rfl, _, rfl⟩⟩, trivial⟩ (fun _ _ => rfl) rfl rfl rfl (fun k X h => by simp at h) zz), inR_i64 zo zo, inR_i64 zo zo, rfl, rfl, rfl, zo, rfl, rfl, rfl, rfl, rfl, trivial⟩) zk (fun RT RH => reshape2 (lim := 0) 0 cfx_G rfl [] zk zk (by exact (ents_nil)) RT RH)
end Go.Proofs.Ytmelbcmfahcffaa
end
section
namespace Go.Proofs.Ytmelbcmfahcffaa
open Go Go.RowKit Go.Proofs.Ytmelbcmfahcffaa.E2
variable (nm : ByteArray) (gs cs : List Int) (n k : Nat) (T U : Nat) (w g y a b r p q : Int)
abbrev zq207 (gs : List Int) (T : Nat) (cs : List Int) (U : Nat) (os : List Int) (W : Nat) (pa : List Int) (Z : Nat) (nm : ByteArray) (w : Int) (g : Int) (y : Int) (n : Nat) (a : Int) (b : Int) (r : Int) (p : Int) (q : Int) (k : Nat) (u : Int) (v : Int) : Heap := [bkG gs T, bkI cs U, bkI os W, some (.cells (mixk [some .u16] pa) Z .ro), bkW nm w g y n a b r p q k, bkP u v, bkW nm w g y n a b r p q k]
abbrev zq77 (gs : List Int) (T : Nat) (cs : List Int) (U : Nat) (os : List Int) (W : Nat) (pa : List Int) (Z : Nat) (nm : ByteArray) (w : Int) (g : Int) (y : Int) (n : Nat) (a : Int) (b : Int) (r : Int) (p : Int) (q : Int) (k : Nat) (u : Int) (v : Int) : Prop := Meets cfx 0 13 [] (zq207 gs T cs U os W pa Z nm w g y n a b r p q k u v) (V.raw (.bool true)) (zq207 gs T cs U os W pa Z nm w g y n a b r p q k u v)
abbrev zq131 (gs : List Int) (T : Nat) (cs : List Int) (U : Nat) (os : List Int) (W : Nat) (pa : List Int) (Z : Nat) (nm : ByteArray) (w : Int) (g : Int) (y : Int) (n : Nat) (a : Int) (b : Int) (r : Int) (p : Int) (q : Int) (k : Nat) (u : Int) (v : Int) : Heap := (zq207 gs T cs U os W pa Z nm w g y n a b r p q k u v)
abbrev zq176 (nm : ByteArray) (w : Int) (g : Int) (y : Int) (n : Nat) (a : Int) (b : Int) (r : Int) (p : Int) (q : Int) (k : Nat) (u : Int) (v : Int) (s : Int) (m : Nat) (pl : Nat) : List V := [lwA nm w g y n a b r p q k, .raw (.agg #[.int .i64 u, .int .i64 v]), .raw (.int .i64 s), .slo 2 m, .slo 3 pl]
abbrev zq188 (gs : List Int) (T : Nat) (cs : List Int) (U : Nat) (os : List Int) (W : Nat) (pa : List Int) (Z : Nat) : Heap := [bkG gs T, bkI cs U, bkI os W, some (.cells (mixk [some .u16] pa) Z .ro)]
theorem fre_great1 (os : List Int) (m : Nat) (W : Nat) (u v s : Int) (pa : List Int) (pl : Nat) (Z : Nat) (h1 : 100 < nm.size) (h9 : nm.size ≤ 9223372036854775807)  : Meets cfx 0 10 (zq176 nm w g y n a b r p q k u v s m pl) (zq188 gs T cs U os W pa Z) (V.raw (.bool true)) (zq188 gs T cs U os W pa Z) := by
  refine Meets.post (meets_ev cfx_mixed cfx_call zz zb (n := 40) (ans := [Ans.go, Ans.go, zT, zT, zT, zT, zT, zT, zT, zT, zT, Ans.reth (V.raw (.bool true)) (zq131 gs T cs U os W pa Z nm w g y n a b r p q k u v)]) (v := V.raw (.bool true)) (h' := (zq131 gs T cs U os W pa Z nm w g y n a b r p q k u v)) (cons := [(decide (100 < (nm.size : Int)) = true), (true = true), (true = true), (true = true), (true = true), (true = true), (true = true), (true = true), (true = true), ((zq77 gs T cs U os W pa Z nm w g y n a b r p q k u v))]) zk
    ⟨zdo, rfl, rfl, rfl, rfl, rfl, rfl, rfl, rfl, (by exact below_ro (lim := 0) (N := []) rfl rfl (fun k => k) (fun _ => false) lnWorks trivial (fun _ _ => rfl) rfl rfl rfl (fun k X h => by simp at h) zz), trivial⟩) zk zt4
theorem fre_great2 (os : List Int) (m : Nat) (W : Nat) (u v s : Int) (pa : List Int) (pl : Nat) (Z : Nat) (h1 : nm.size ≤ 100) (h2 : 20 < n)  : Meets cfx 0 10 (zq176 nm w g y n a b r p q k u v s m pl) (zq188 gs T cs U os W pa Z) (V.raw (.bool true)) (zq188 gs T cs U os W pa Z) := by
  refine Meets.post (meets_ev cfx_mixed cfx_call zz zb (n := 40) (ans := [Ans.go, Ans.go, zF, zF, zT, zT, zT, zT, zT, zT, zT, Ans.reth (V.raw (.bool true)) (zq131 gs T cs U os W pa Z nm w g y n a b r p q k u v)]) (v := V.raw (.bool true)) (h' := (zq131 gs T cs U os W pa Z nm w g y n a b r p q k u v)) (cons := [(decide (100 < (nm.size : Int)) = false), (false = false), (decide (20 < (n : Int)) = true), (true = true), (true = true), (true = true), (true = true), (true = true), (true = true), ((zq77 gs T cs U os W pa Z nm w g y n a b r p q k u v))]) zk
    ⟨zdo, rfl, zdo, rfl, rfl, rfl, rfl, rfl, rfl, (by exact below_ro (lim := 0) (N := []) rfl rfl (fun k => k) (fun _ => false) lnWorks trivial (fun _ _ => rfl) rfl rfl rfl (fun k X h => by simp at h) zz), trivial⟩) zk zt4
theorem fre_great3 (os : List Int) (m : Nat) (W : Nat) (u v s : Int) (pa : List Int) (pl : Nat) (Z : Nat) (h1 : nm.size ≤ 100) (h2 : n ≤ 20) (h3 : 300 < k)  : Meets cfx 0 10 (zq176 nm w g y n a b r p q k u v s m pl) (zq188 gs T cs U os W pa Z) (V.raw (.bool true)) (zq188 gs T cs U os W pa Z) := by
  refine Meets.post (meets_ev cfx_mixed cfx_call zz zb (n := 40) (ans := [Ans.go, Ans.go, zF, zF, zF, zF, zT, zT, zT, zT, zT, Ans.reth (V.raw (.bool true)) (zq131 gs T cs U os W pa Z nm w g y n a b r p q k u v)]) (v := V.raw (.bool true)) (h' := (zq131 gs T cs U os W pa Z nm w g y n a b r p q k u v)) (cons := [(decide (100 < (nm.size : Int)) = false), (false = false), (decide (20 < (n : Int)) = false), (false = false), (decide (300 < (k : Int)) = true), (true = true), (true = true), (true = true), (true = true), ((zq77 gs T cs U os W pa Z nm w g y n a b r p q k u v))]) zk
    ⟨zdo, rfl, zdo, rfl, zdo, rfl, rfl, rfl, rfl, (by exact below_ro (lim := 0) (N := []) rfl rfl (fun k => k) (fun _ => false) lnWorks trivial (fun _ _ => rfl) rfl rfl rfl (fun k X h => by simp at h) zz), trivial⟩) zk zt4
theorem fre_great4 (os : List Int) (m : Nat) (W : Nat) (u v s : Int) (pa : List Int) (pl : Nat) (Z : Nat) (h1 : nm.size ≤ 100) (h2 : n ≤ 20) (h3 : k ≤ 300) (h4 : 12 < m)  : Meets cfx 0 10 (zq176 nm w g y n a b r p q k u v s m pl) (zq188 gs T cs U os W pa Z) (V.raw (.bool true)) (zq188 gs T cs U os W pa Z) := by
  refine Meets.post (meets_ev cfx_mixed cfx_call zz zb (n := 40) (ans := [Ans.go, Ans.go, zF, zF, zF, zF, zF, zF, zT, zT, zT, Ans.reth (V.raw (.bool true)) (zq131 gs T cs U os W pa Z nm w g y n a b r p q k u v)]) (v := V.raw (.bool true)) (h' := (zq131 gs T cs U os W pa Z nm w g y n a b r p q k u v)) (cons := [(decide (100 < (nm.size : Int)) = false), (false = false), (decide (20 < (n : Int)) = false), (false = false), (decide (300 < (k : Int)) = false), (false = false), (decide (12 < (m : Int)) = true), (true = true), (true = true), ((zq77 gs T cs U os W pa Z nm w g y n a b r p q k u v))]) zk
    ⟨zdo, rfl, zdo, rfl, zdo, rfl, zdo, rfl, rfl, (by exact below_ro (lim := 0) (N := []) rfl rfl (fun k => k) (fun _ => false) lnWorks trivial (fun _ _ => rfl) rfl rfl rfl (fun k X h => by simp at h) zz), trivial⟩) zk zt4
theorem fre_chk (os : List Int) (m : Nat) (W : Nat) (u v s : Int) (pa : List Int) (pl : Nat) (Z : Nat) (h1 : nm.size ≤ 100) (h2 : n ≤ 20) (h3 : k ≤ 300) (h4 : m ≤ 12) (E : Int) (hE : ¬ E = 0) (hC : (zq183 nm w g y n a b r p q k gs T cs U E))  : Meets cfx 0 10 (zq176 nm w g y n a b r p q k u v s m pl) (zq188 gs T cs U os W pa Z) (V.raw (.bool true)) (zq188 gs T cs U os W pa Z) := by
  refine Meets.post (meets_ev cfx_mixed cfx_call zz zb (n := 40) (ans := [Ans.go, Ans.go, zF, zF, zF, zF, zF, zF, zF, Ans.reth (iV E) (zq131 gs T cs U os W pa Z nm w g y n a b r p q k u v), zF, zT, Ans.reth (V.raw (.bool true)) (zq131 gs T cs U os W pa Z nm w g y n a b r p q k u v)]) (v := V.raw (.bool true)) (h' := (zq131 gs T cs U os W pa Z nm w g y n a b r p q k u v)) (cons := [(decide (100 < (nm.size : Int)) = false), (false = false), (decide (20 < (n : Int)) = false), (false = false), (decide (300 < (k : Int)) = false), (false = false), (decide (12 < (m : Int)) = false), (Meets cfx 0 45 [lwA nm w g y n a b r p q k] (zq131 gs T cs U os W pa Z nm w g y n a b r p q k u v) (iV E) (zq131 gs T cs U os W pa Z nm w g y n a b r p q k u v)), (false = false), ((!decide (E = 0)) = true), ((zq77 gs T cs U os W pa Z nm w g y n a b r p q k u v))]) zk
    ⟨zdo, rfl, zdo, rfl, zdo, rfl, zdo, (by exact below2 (lim := 0) rfl rfl 0 1 (N := []) hC (mix_all _ _) (ints_all _) rfl (fun k X h => by simp at h) rfl rfl zz), rfl, zdf, (by exact below_ro (lim := 0) (N := []) rfl rfl (fun k => k) (fun _ => false) lnWorks trivial (fun _ _ => rfl) rfl rfl rfl (fun k X h => by simp at h) zz), trivial⟩) zk zt4
abbrev zq74 (nm : ByteArray) (w : Int) (g : Int) (y : Int) (n : Nat) (a : Int) (b : Int) (r : Int) (p : Int) (q : Int) (k : Nat) (gs : List Int) (T : Nat) (cs : List Int) (U : Nat) (os : List Int) (W : Nat) (pa : List Int) (Z : Nat) (u : Int) (v : Int) : Prop := Meets cfx 0 45 [lwA nm w g y n a b r p q k] (zq207 gs T cs U os W pa Z nm w g y n a b r p q k u v) (iV 0) (zq207 gs T cs U os W pa Z nm w g y n a b r p q k u v)
abbrev zq107 (gs : List Int) (T : Nat) (cs : List Int) (U : Nat) (os : List Int) (W : Nat) (pa : List Int) (Z : Nat) (nm : ByteArray) (w : Int) (g : Int) (y : Int) (n : Nat) (a : Int) (b : Int) (r : Int) (p : Int) (q : Int) (k : Nat) (u : Int) (v : Int) (sx : Int) (sy : Int) : Heap := [bkG gs T, bkI cs U, bkI os W, some (.cells (mixk [some .u16] pa) Z .ro), bkW nm w g y n a b r p q k, bkP u v, bkW nm w g y n a b r p q k, bkP 0 0, bkP sx sy]
theorem fre_bad (os : List Int) (m : Nat) (W : Nat) (u v s : Int) (pa : List Int) (pl : Nat) (Z : Nat) (h1 : nm.size ≤ 100) (h2 : n ≤ 20) (h3 : k ≤ 300) (h4 : m ≤ 12) (hC : (zq181 nm w g y n a b r p q k gs T cs U)) (pe sx sy se : Int) (ib : Bool) (hpe : ¬ pe = 0) (hpu : Meets cfx 0 39 (zq184 nm w g y n a b r p q k u v s m) [bkG gs T, bkI cs U, bkI os W] (.raw (.tuple #[.agg #[.int .i64 0, .int .i64 0], .int .i64 pe])) [bkG gs T, bkI cs U, bkI os W]) (hsp : Meets cfx 0 20 [lwA nm w g y n a b r p q k, .raw (.agg #[.int .i64 u, .int .i64 v])] [bkG gs T, bkI cs U] (.raw (.tuple #[.agg #[.int .i64 sx, .int .i64 sy], .bool ib, .int .i64 se])) [bkG gs T, bkI cs U])  : Meets cfx 0 10 (zq176 nm w g y n a b r p q k u v s m pl) (zq188 gs T cs U os W pa Z) (V.raw (.bool true)) (zq188 gs T cs U os W pa Z) := by
  refine Meets.post (meets_ev cfx_mixed cfx_call zz zb (n := 40) (ans := [Ans.go, Ans.go, zF, zF, zF, zF, zF, zF, zF, Ans.reth (iV 0) (zq131 gs T cs U os W pa Z nm w g y n a b r p q k u v), zF, zF, Ans.reth (V.raw (.tuple { toList := [.agg { toList := [.int .i64 0, .int .i64 0] }, .int .i64 pe] })) (zq131 gs T cs U os W pa Z nm w g y n a b r p q k u v), Ans.reth (V.raw (.tuple { toList := [.agg { toList := [.int .i64 sx, .int .i64 sy] }, .bool ib, .int .i64 se] })) [bkG gs T, bkI cs U, bkI os W, some (.cells (mixk [some .u16] pa) Z .ro), bkW nm w g y n a b r p q k, bkP u v, bkW nm w g y n a b r p q k, bkP 0 0], zT, zT, Ans.reth (V.raw (.bool true)) (zq107 gs T cs U os W pa Z nm w g y n a b r p q k u v sx sy), zT]) (v := V.raw (.bool true)) (h' := (zq107 gs T cs U os W pa Z nm w g y n a b r p q k u v sx sy)) (cons := [(decide (100 < (nm.size : Int)) = false), (false = false), (decide (20 < (n : Int)) = false), (false = false), (decide (300 < (k : Int)) = false), (false = false), (decide (12 < (m : Int)) = false), ((zq74 nm w g y n a b r p q k gs T cs U os W pa Z u v)), (false = false), (false = false), (Meets cfx 0 39 [lwA nm w g y n a b r p q k, V.raw (.agg { toList := [.int .i64 u, .int .i64 v] }), iV s, .slo 2 m] (zq131 gs T cs U os W pa Z nm w g y n a b r p q k u v) (V.raw (.tuple { toList := [.agg { toList := [.int .i64 0, .int .i64 0] }, .int .i64 pe] })) (zq131 gs T cs U os W pa Z nm w g y n a b r p q k u v)), (Meets cfx 0 20 [lwA nm w g y n a b r p q k, V.raw (.agg { toList := [.int .i64 u, .int .i64 v] })] [bkG gs T, bkI cs U, bkI os W, some (.cells (mixk [some .u16] pa) Z .ro), bkW nm w g y n a b r p q k, bkP u v, bkW nm w g y n a b r p q k, bkP 0 0] (V.raw (.tuple { toList := [.agg { toList := [.int .i64 sx, .int .i64 sy] }, .bool ib, .int .i64 se] })) [bkG gs T, bkI cs U, bkI os W, some (.cells (mixk [some .u16] pa) Z .ro), bkW nm w g y n a b r p q k, bkP u v, bkW nm w g y n a b r p q k, bkP 0 0]), ((!decide (pe = 0)) = true), (true = true), (Meets cfx 0 13 [] (zq107 gs T cs U os W pa Z nm w g y n a b r p q k u v sx sy) (V.raw (.bool true)) (zq107 gs T cs U os W pa Z nm w g y n a b r p q k u v sx sy)), (true = true)]) zk
    ⟨zdo, rfl, zdo, rfl, zdo, rfl, zdo, (by exact below2 (lim := 0) rfl rfl 0 1 (N := []) hC (mix_all _ _) (ints_all _) rfl (fun k X h => by simp at h) rfl rfl zz), rfl, rfl, (by exact below_ro (lim := 0) (N := []) rfl rfl (fun k => if k = 0 then 0 else if k = 1 then 1 else 2) (fun _ => false) hpu ⟨⟨_, _, rfl, mix_all _ _, .inl ⟨rfl, _, rfl⟩⟩, ⟨_, _, rfl, ints_all _, .inl ⟨rfl, _, rfl⟩⟩, ⟨_, _, rfl, ints_all _, .inl ⟨rfl, _, rfl⟩⟩, trivial⟩ (fun _ _ => rfl) rfl rfl rfl (fun k X h => by simp at h) zz), (by exact below2 (lim := 0) rfl rfl 0 1 (N := []) hsp (mix_all _ _) (ints_all _) rfl (fun k X h => by simp at h) rfl rfl zz), zdf, rfl, (by exact below_ro (lim := 0) (N := []) rfl rfl (fun k => k) (fun _ => false) lnWorks trivial (fun _ _ => rfl) rfl rfl rfl (fun k X h => by simp at h) zz), rfl, trivial⟩) zk zt4
end Go.Proofs.Ytmelbcmfahcffaa
end
section
namespace Go.Proofs.Ytmelbcmfahcffaa
open Go Go.RowKit Go.Proofs.Ytmelbcmfahcffaa.E2
variable (nm : ByteArray) (gs cs : List Int) (n k : Nat) (T U : Nat) (w g y a b r p q : Int)
abbrev zq189 (nm : ByteArray) (w : Int) (g : Int) (y : Int) (n : Nat) (a : Int) (b : Int) (r : Int) (p : Int) (q : Int) (k : Nat) (u : Int) (v : Int) (s : Int) (m : Nat) (pl : Nat) (ib : Bool) (sx : Int) (sy : Int) (ax : Int) (az : Int) (hf : Int) (os : List Int) : List V := (catV [lwA nm w g y n a b r p q k, V.raw (.agg { toList := [.int .i64 u, .int .i64 v] }), iV s, .slo 2 m, .slo 3 pl, .ptr 4 0, .ptr 5 0, uV, uV, uV, V.raw (.bool false), .ptr 7 0, iV 0, .ptr 8 0, V.raw (.bool ib), iV 0, .ptr 9 0, iV 0, iV (M.yNum y y (w - y) (g - y) sx sy), iV 0, iV (M.yNum y y (w - y) (g - y) ax az), iV 0, iV (2 * hf), iV (if (M.yNum y y (w - y) (g - y) sx sy - M.yNum y y (w - y) (g - y) ax az + 2 * hf).tmod (2 * hf) < (M.yNum y y (w - y) (g - y) ax az - M.yNum y y (w - y) (g - y) sx sy + 2 * hf).tmod (2 * hf) then (M.yNum y y (w - y) (g - y) sx sy - M.yNum y y (w - y) (g - y) ax az + 2 * hf).tmod (2 * hf) else (M.yNum y y (w - y) (g - y) ax az - M.yNum y y (w - y) (g - y) sx sy + 2 * hf).tmod (2 * hf)), iV 0, uV, lwA nm w g y n a b r p q k, V.raw (.bool (decide (300 < (k : Int)))), V.lit false, .slo 2 m, iV (m : Int), V.raw (.bool (decide (12 < (m : Int)))), V.raw (.bool (decide (12 < (m : Int)))), V.lit false, lwA nm w g y n a b r p q k, iV 0, V.raw (.bool false), V.raw (.bool false), uV, V.raw (.tuple { toList := [.agg { toList := [.int .i64 ax, .int .i64 az] }, .int .i64 0] }), lwA nm w g y n a b r p q k, V.raw (.agg { toList := [.int .i64 u, .int .i64 v] }), iV s, .slo 2 m, V.raw (.tuple { toList := [.agg { toList := [.int .i64 ax, .int .i64 az] }, .int .i64 0] }), V.raw (.agg { toList := [.int .i64 ax, .int .i64 az] }), iV 0, V.raw (.tuple { toList := [.agg { toList := [.int .i64 sx, .int .i64 sy] }, .bool ib, .int .i64 0] }), lwA nm w g y n a b r p q k, V.raw (.agg { toList := [.int .i64 u, .int .i64 v] }), V.raw (.tuple { toList := [.agg { toList := [.int .i64 sx, .int .i64 sy] }, .bool ib, .int .i64 0] }), V.raw (.agg { toList := [.int .i64 sx, .int .i64 sy] }), V.raw (.bool ib), iV 0, iV 0, V.raw (.bool false)] (repU 6 (catV [V.raw (.tuple { toList := [.agg { toList := [.int .i64 sx, .int .i64 sy] }, .int .i64 0] }), lwA nm w g y n a b r p q k, V.raw (.agg { toList := [.int .i64 u, .int .i64 v] }), iV s, V.raw (.tuple { toList := [.agg { toList := [.int .i64 sx, .int .i64 sy] }, .int .i64 0] }), V.raw (.agg { toList := [.int .i64 sx, .int .i64 sy] }), iV 0, V.raw (.tuple { toList := [.int .i64 (M.yNum y y (w - y) (g - y) sx sy), .int .i64 0] }), lwA nm w g y n a b r p q k, V.raw (.agg { toList := [.int .i64 sx, .int .i64 sy] }), V.raw (.tuple { toList := [.int .i64 (M.yNum y y (w - y) (g - y) sx sy), .int .i64 0] }), iV (M.yNum y y (w - y) (g - y) sx sy), iV 0, V.raw (.tuple { toList := [.int .i64 (M.yNum y y (w - y) (g - y) ax az), .int .i64 0] }), lwA nm w g y n a b r p q k, V.raw (.agg { toList := [.int .i64 ax, .int .i64 az] }), V.raw (.tuple { toList := [.int .i64 (M.yNum y y (w - y) (g - y) ax az), .int .i64 0] }), iV (M.yNum y y (w - y) (g - y) ax az), iV 0, iV 0, V.raw (.bool false), V.lit false, iV 0, V.raw (.bool false), V.raw (.bool false), V.lit false, iV 0, V.raw (.bool false), V.raw (.bool false), V.lit false, iV 0, V.raw (.bool false), V.raw (.bool false), V.lit false, V.raw (.agg { toList := [.int .i64 sx, .int .i64 sy] }), V.raw (.agg { toList := [.int .i64 sx, .int .i64 sy] }), V.raw (.bool !(decide (sx = sx) && (decide (sy = sy) && true))), V.raw (.bool !(decide (sx = sx) && (decide (sy = sy) && true))), V.lit false, V.raw (.agg { toList := [.int .i64 ax, .int .i64 az] }), iV s, .slo 2 m, V.raw (.bool !M.tchA os m ax az s), V.raw (.bool !!M.tchA os m ax az s), V.raw (.bool !!M.tchA os m ax az s), lwA nm w g y n a b r p q k, iV (2 * hf), iV (M.yNum y y (w - y) (g - y) ax az), iV (M.yNum y y (w - y) (g - y) sx sy), iV (M.yNum y y (w - y) (g - y) ax az - M.yNum y y (w - y) (g - y) sx sy), iV (2 * hf), iV (M.yNum y y (w - y) (g - y) ax az - M.yNum y y (w - y) (g - y) sx sy + 2 * hf), iV (2 * hf), iV ((M.yNum y y (w - y) (g - y) ax az - M.yNum y y (w - y) (g - y) sx sy + 2 * hf).tmod (2 * hf)), iV (M.yNum y y (w - y) (g - y) sx sy), iV (M.yNum y y (w - y) (g - y) ax az), iV (M.yNum y y (w - y) (g - y) sx sy - M.yNum y y (w - y) (g - y) ax az), iV (2 * hf), iV (M.yNum y y (w - y) (g - y) sx sy - M.yNum y y (w - y) (g - y) ax az + 2 * hf), iV (2 * hf), iV ((M.yNum y y (w - y) (g - y) sx sy - M.yNum y y (w - y) (g - y) ax az + 2 * hf).tmod (2 * hf)), iV (if (M.yNum y y (w - y) (g - y) sx sy - M.yNum y y (w - y) (g - y) ax az + 2 * hf).tmod (2 * hf) < (M.yNum y y (w - y) (g - y) ax az - M.yNum y y (w - y) (g - y) sx sy + 2 * hf).tmod (2 * hf) then (M.yNum y y (w - y) (g - y) sx sy - M.yNum y y (w - y) (g - y) ax az + 2 * hf).tmod (2 * hf) else (M.yNum y y (w - y) (g - y) ax az - M.yNum y y (w - y) (g - y) sx sy + 2 * hf).tmod (2 * hf))] (repU 48 []))))
abbrev zq195 (nm : ByteArray) (w : Int) (g : Int) (y : Int) (n : Nat) (a : Int) (b : Int) (r : Int) (p : Int) (q : Int) (k : Nat) (u : Int) (v : Int) (s : Int) (m : Nat) (pl : Nat) (ib : Bool) (sx : Int) (sy : Int) (ax : Int) (az : Int) (hf : Int) (kk : Int) : List V := (catV [lwA nm w g y n a b r p q k, V.raw (.agg { toList := [.int .i64 u, .int .i64 v] }), iV s, .slo 2 m, .slo 3 pl, .ptr 4 0, .ptr 5 0, uV, uV, uV, V.raw (.bool false), .ptr 7 0, iV 0, .ptr 8 0, V.raw (.bool ib), iV 0, .ptr 9 0, iV 0, iV (M.yNum y y (w - y) (g - y) sx sy), iV 0, iV (M.yNum y y (w - y) (g - y) ax az), iV 0, iV (2 * hf), iV (if (M.yNum y y (w - y) (g - y) sx sy - M.yNum y y (w - y) (g - y) ax az + 2 * hf).tmod (2 * hf) < (M.yNum y y (w - y) (g - y) ax az - M.yNum y y (w - y) (g - y) sx sy + 2 * hf).tmod (2 * hf) then (M.yNum y y (w - y) (g - y) sx sy - M.yNum y y (w - y) (g - y) ax az + 2 * hf).tmod (2 * hf) else (M.yNum y y (w - y) (g - y) ax az - M.yNum y y (w - y) (g - y) sx sy + 2 * hf).tmod (2 * hf)), iV kk] (anyR 25 147 []))
abbrev zq1 (nm : ByteArray) (w : Int) (g : Int) (y : Int) (n : Nat) (a : Int) (b : Int) (r : Int) (p : Int) (q : Int) (k : Nat) (u : Int) (v : Int) (s : Int) (m : Nat) (pl : Nat) (ib : Bool) (sx : Int) (sy : Int) (ax : Int) (az : Int) (hf : Int) (os : List Int) (gs : List Int) (T : Nat) (cs : List Int) (U : Nat) (W : Nat) (pa : List Int) (Z : Nat) (kk : Int) : Prop := Runs cfx 0 10 none (.loop (loopOf cfx.P 10 0)) (zq189 nm w g y n a b r p q k u v s m pl ib sx sy ax az hf os) (zq203 gs T cs U os W pa Z nm w g y n a b r p q k u v ax az sx sy) (Ex.exit 0) (zq195 nm w g y n a b r p q k u v s m pl ib sx sy ax az hf kk) (zq203 gs T cs U os W pa Z nm w g y n a b r p q k u v ax az sx sy)
abbrev zq3 (nm : ByteArray) (w : Int) (g : Int) (y : Int) (n : Nat) (a : Int) (b : Int) (r : Int) (p : Int) (q : Int) (k : Nat) (u : Int) (v : Int) (s : Int) (m : Nat) (pl : Nat) (ib : Bool) (sx : Int) (sy : Int) (ax : Int) (az : Int) (hf : Int) (os : List Int) : List V := (zq189 nm w g y n a b r p q k u v s m pl ib sx sy ax az hf os)
abbrev zq24 (nm : ByteArray) (w : Int) (g : Int) (y : Int) (n : Nat) (a : Int) (b : Int) (r : Int) (p : Int) (q : Int) (k : Nat) (u : Int) (v : Int) (s : Int) (m : Nat) (pl : Nat) (ib : Bool) (sx : Int) (sy : Int) (ax : Int) (az : Int) (hf : Int) (kk : Int) : List V := (zq195 nm w g y n a b r p q k u v s m pl ib sx sy ax az hf kk)
abbrev zq37 (nm : ByteArray) (w : Int) (g : Int) (y : Int) (n : Nat) (a : Int) (b : Int) (r : Int) (p : Int) (q : Int) (k : Nat) (sx : Int) (sy : Int) (gs : List Int) (T : Nat) (cs : List Int) (U : Nat) (os : List Int) (W : Nat) (pa : List Int) (Z : Nat) (u : Int) (v : Int) (ax : Int) (az : Int) : Prop := Meets cfx 0 24 [lwA nm w g y n a b r p q k, V.raw (.agg { toList := [.int .i64 sx, .int .i64 sy] })] (zq203 gs T cs U os W pa Z nm w g y n a b r p q k u v ax az sx sy) (V.raw (.tuple { toList := [.int .i64 (M.yNum y y (w - y) (g - y) sx sy), .int .i64 0] })) (zq203 gs T cs U os W pa Z nm w g y n a b r p q k u v ax az sx sy)
abbrev zq38 (nm : ByteArray) (w : Int) (g : Int) (y : Int) (n : Nat) (a : Int) (b : Int) (r : Int) (p : Int) (q : Int) (k : Nat) (ax : Int) (az : Int) (gs : List Int) (T : Nat) (cs : List Int) (U : Nat) (os : List Int) (W : Nat) (pa : List Int) (Z : Nat) (u : Int) (v : Int) (sx : Int) (sy : Int) : Prop := Meets cfx 0 24 [lwA nm w g y n a b r p q k, V.raw (.agg { toList := [.int .i64 ax, .int .i64 az] })] (zq203 gs T cs U os W pa Z nm w g y n a b r p q k u v ax az sx sy) (V.raw (.tuple { toList := [.int .i64 (M.yNum y y (w - y) (g - y) ax az), .int .i64 0] })) (zq203 gs T cs U os W pa Z nm w g y n a b r p q k u v ax az sx sy)
abbrev zq39 (nm : ByteArray) (w : Int) (g : Int) (y : Int) (n : Nat) (a : Int) (b : Int) (r : Int) (p : Int) (q : Int) (k : Nat) (u : Int) (v : Int) (s : Int) (gs : List Int) (T : Nat) (cs : List Int) (U : Nat) (os : List Int) (W : Nat) (pa : List Int) (Z : Nat) (ax : Int) (az : Int) (sx : Int) (sy : Int) : Prop := Meets cfx 0 39 [lwA nm w g y n a b r p q k, V.raw (.agg { toList := [.int .i64 u, .int .i64 v] }), iV s, V.raw (Value.slice none 0 0)] [bkG gs T, bkI cs U, bkI os W, some (.cells (mixk [some .u16] pa) Z .ro), bkW nm w g y n a b r p q k, bkP u v, bkW nm w g y n a b r p q k, bkP ax az, bkP sx sy] (V.raw (.tuple { toList := [.agg { toList := [.int .i64 sx, .int .i64 sy] }, .int .i64 0] })) [bkG gs T, bkI cs U, bkI os W, some (.cells (mixk [some .u16] pa) Z .ro), bkW nm w g y n a b r p q k, bkP u v, bkW nm w g y n a b r p q k, bkP ax az, bkP sx sy]
abbrev zq40 (ax : Int) (az : Int) (s : Int) (m : Nat) (gs : List Int) (T : Nat) (cs : List Int) (U : Nat) (os : List Int) (W : Nat) (pa : List Int) (Z : Nat) (nm : ByteArray) (w : Int) (g : Int) (y : Int) (n : Nat) (a : Int) (b : Int) (r : Int) (p : Int) (q : Int) (k : Nat) (u : Int) (v : Int) (sx : Int) (sy : Int) : Prop := Meets cfx 0 48 [V.raw (.agg { toList := [.int .i64 ax, .int .i64 az] }), iV s, .slo 2 m] (zq203 gs T cs U os W pa Z nm w g y n a b r p q k u v ax az sx sy) (V.raw (.bool !M.tchA os m ax az s)) (zq203 gs T cs U os W pa Z nm w g y n a b r p q k u v ax az sx sy)
abbrev zq46 (nm : ByteArray) (w : Int) (g : Int) (y : Int) (n : Nat) (a : Int) (b : Int) (r : Int) (p : Int) (q : Int) (k : Nat) (gs : List Int) (T : Nat) (cs : List Int) (U : Nat) (os : List Int) (W : Nat) (pa : List Int) (Z : Nat) (u : Int) (v : Int) (ax : Int) (az : Int) (sx : Int) (sy : Int) (hf : Int) : Prop := Meets cfx 0 49 [lwA nm w g y n a b r p q k] (zq203 gs T cs U os W pa Z nm w g y n a b r p q k u v ax az sx sy) (iV (2 * hf)) (zq203 gs T cs U os W pa Z nm w g y n a b r p q k u v ax az sx sy)
abbrev zq47 (nm : ByteArray) (w : Int) (g : Int) (y : Int) (n : Nat) (a : Int) (b : Int) (r : Int) (p : Int) (q : Int) (k : Nat) (u : Int) (v : Int) (gs : List Int) (T : Nat) (cs : List Int) (U : Nat) (os : List Int) (W : Nat) (pa : List Int) (Z : Nat) (ax : Int) (az : Int) (sx : Int) (sy : Int) (ib : Bool) : Prop := Meets cfx 0 20 [lwA nm w g y n a b r p q k, V.raw (.agg { toList := [.int .i64 u, .int .i64 v] })] [bkG gs T, bkI cs U, bkI os W, some (.cells (mixk [some .u16] pa) Z .ro), bkW nm w g y n a b r p q k, bkP u v, bkW nm w g y n a b r p q k, bkP ax az] (V.raw (.tuple { toList := [.agg { toList := [.int .i64 sx, .int .i64 sy] }, .bool ib, .int .i64 0] })) [bkG gs T, bkI cs U, bkI os W, some (.cells (mixk [some .u16] pa) Z .ro), bkW nm w g y n a b r p q k, bkP u v, bkW nm w g y n a b r p q k, bkP ax az]
abbrev zq49 (gs : List Int) (T : Nat) (cs : List Int) (U : Nat) (os : List Int) (W : Nat) (pa : List Int) (Z : Nat) (nm : ByteArray) (w : Int) (g : Int) (y : Int) (n : Nat) (a : Int) (b : Int) (r : Int) (p : Int) (q : Int) (k : Nat) (u : Int) (v : Int) (ax : Int) (az : Int) (sx : Int) (sy : Int) : Prop := Meets cfx 0 13 [] (zq203 gs T cs U os W pa Z nm w g y n a b r p q k u v ax az sx sy) (V.raw (.bool true)) (zq203 gs T cs U os W pa Z nm w g y n a b r p q k u v ax az sx sy)
abbrev zq61 (nm : ByteArray) (w : Int) (g : Int) (y : Int) (n : Nat) (a : Int) (b : Int) (r : Int) (p : Int) (q : Int) (k : Nat) (u : Int) (v : Int) (s : Int) (m : Nat) (gs : List Int) (T : Nat) (cs : List Int) (U : Nat) (os : List Int) (W : Nat) (pa : List Int) (Z : Nat) (ax : Int) (az : Int) : Prop := Meets cfx 0 39 [lwA nm w g y n a b r p q k, V.raw (.agg { toList := [.int .i64 u, .int .i64 v] }), iV s, .slo 2 m] (zq207 gs T cs U os W pa Z nm w g y n a b r p q k u v) (V.raw (.tuple { toList := [.agg { toList := [.int .i64 ax, .int .i64 az] }, .int .i64 0] })) (zq207 gs T cs U os W pa Z nm w g y n a b r p q k u v)
abbrev zq105 (gs : List Int) (T : Nat) (cs : List Int) (U : Nat) (os : List Int) (W : Nat) (pa : List Int) (Z : Nat) (nm : ByteArray) (w : Int) (g : Int) (y : Int) (n : Nat) (a : Int) (b : Int) (r : Int) (p : Int) (q : Int) (k : Nat) (u : Int) (v : Int) (ax : Int) (az : Int) (sx : Int) (sy : Int) : Heap := [bkG gs T, bkI cs U, bkI os W, some (.cells (mixk [some .u16] pa) Z .ro), bkW nm w g y n a b r p q k, bkP u v, bkW nm w g y n a b r p q k, bkP ax az, bkP sx sy]
abbrev zq115 (gs : List Int) (T : Nat) (cs : List Int) (U : Nat) (os : List Int) (W : Nat) (pa : List Int) (Z : Nat) (nm : ByteArray) (w : Int) (g : Int) (y : Int) (n : Nat) (a : Int) (b : Int) (r : Int) (p : Int) (q : Int) (k : Nat) (u : Int) (v : Int) (ax : Int) (az : Int) : Heap := [bkG gs T, bkI cs U, bkI os W, some (.cells (mixk [some .u16] pa) Z .ro), bkW nm w g y n a b r p q k, bkP u v, bkW nm w g y n a b r p q k, bkP ax az]
theorem fre_4 (os : List Int) (m : Nat) (W : Nat) (u v s : Int) (pa : List Int) (pl : Nat) (Z : Nat) (h1 : nm.size ≤ 100) (h2 : n ≤ 20) (h3 : k ≤ 300) (h4 : m ≤ 12) (hC : (zq181 nm w g y n a b r p q k gs T cs U)) (sx sy ax az hf : Int) (ib : Bool) (hpu : (zq116 nm w g y n a b r p q k u v s m gs T cs U os W ax az)) (hpn : (zq104 nm w g y n a b r p q k u v s gs T cs U sx sy)) (hsp : (zq138 nm w g y n a b r p q k u v gs T cs U sx sy ib)) (hns : (zq135 nm w g y n a b r p q k sx sy gs T cs U)) (hna : (zq136 nm w g y n a b r p q k ax az gs T cs U)) (hpc : (zq171 nm w g y n a b r p q k gs T cs U hf)) (hz : m * 3 ≤ os.length) (hzp : pl ≤ pa.length) (hka : M.okP ax az) (hcl : M.tchA os m ax az s = false) (hst : 0 ≤ (M.yNum y y (w - y) (g - y) sx sy) ∧ (M.yNum y y (w - y) (g - y) sx sy) ≤ 16777216) (hnv : 0 ≤ (M.yNum y y (w - y) (g - y) ax az) ∧ (M.yNum y y (w - y) (g - y) ax az) ≤ 16777216) (hf0 : 1 ≤ hf ∧ hf ≤ 8388608) (hd1 : 0 ≤ (((M.yNum y y (w - y) (g - y) ax az) - (M.yNum y y (w - y) (g - y) sx sy) + 2 * hf).tmod (2 * hf)) ∧ (((M.yNum y y (w - y) (g - y) ax az) - (M.yNum y y (w - y) (g - y) sx sy) + 2 * hf).tmod (2 * hf)) < 2 * hf) (hd2 : 0 ≤ (((M.yNum y y (w - y) (g - y) sx sy) - (M.yNum y y (w - y) (g - y) ax az) + 2 * hf).tmod (2 * hf)) ∧ (((M.yNum y y (w - y) (g - y) sx sy) - (M.yNum y y (w - y) (g - y) ax az) + 2 * hf).tmod (2 * hf)) < 2 * hf) (hw : (65536 ≤ w ∧ w ≤ 4194304) ∧ (65536 ≤ g ∧ g ≤ 4194304) ∧ (0 ≤ y ∧ y ≤ 1048576) ∧ 2 * y ≤ w - 2 ∧ 2 * y ≤ g - 2) (hq2 : ∀ i : Nat, i < m → M.okP (at' os (i * 3)) (at' os (i * 3 + 1)) ∧ 1 ≤ at' os (i * 3 + 2) ∧ at' os (i * 3 + 2) ≤ 16384) (hs2 : 1 ≤ s ∧ s ≤ 16384) (hpl : ∀ j : Int, 0 ≤ j → j < 2 * hf → M.okP (M.yX y y (w - y) (g - y) j) (M.yY y y (w - y) (g - y) j)) (kk : Int) (hR : Runs cfx 0 10 none (.loop (loopOf cfx.P 10 0)) (frp_T nm gs cs n k T U w g y a b r p q os m W u v s pa pl Z sx sy ax az hf ib 0 (if (((M.yNum y y (w - y) (g - y) sx sy) - (M.yNum y y (w - y) (g - y) ax az) + 2 * hf).tmod (2 * hf)) < (((M.yNum y y (w - y) (g - y) ax az) - (M.yNum y y (w - y) (g - y) sx sy) + 2 * hf).tmod (2 * hf)) then (((M.yNum y y (w - y) (g - y) sx sy) - (M.yNum y y (w - y) (g - y) ax az) + 2 * hf).tmod (2 * hf)) else (((M.yNum y y (w - y) (g - y) ax az) - (M.yNum y y (w - y) (g - y) sx sy) + 2 * hf).tmod (2 * hf))) (M.yNum y y (w - y) (g - y) sx sy)) (frp_H nm gs cs n k T U w g y a b r p q os m W u v s pa pl Z sx sy ax az hf ib 0 (if (((M.yNum y y (w - y) (g - y) sx sy) - (M.yNum y y (w - y) (g - y) ax az) + 2 * hf).tmod (2 * hf)) < (((M.yNum y y (w - y) (g - y) ax az) - (M.yNum y y (w - y) (g - y) sx sy) + 2 * hf).tmod (2 * hf)) then (((M.yNum y y (w - y) (g - y) sx sy) - (M.yNum y y (w - y) (g - y) ax az) + 2 * hf).tmod (2 * hf)) else (((M.yNum y y (w - y) (g - y) ax az) - (M.yNum y y (w - y) (g - y) sx sy) + 2 * hf).tmod (2 * hf))) (M.yNum y y (w - y) (g - y) sx sy)) (.exit 0) (frp_T4 nm gs cs n k T U w g y a b r p q os m W u v s pa pl Z sx sy ax az hf ib kk (if (((M.yNum y y (w - y) (g - y) sx sy) - (M.yNum y y (w - y) (g - y) ax az) + 2 * hf).tmod (2 * hf)) < (((M.yNum y y (w - y) (g - y) ax az) - (M.yNum y y (w - y) (g - y) sx sy) + 2 * hf).tmod (2 * hf)) then (((M.yNum y y (w - y) (g - y) sx sy) - (M.yNum y y (w - y) (g - y) ax az) + 2 * hf).tmod (2 * hf)) else (((M.yNum y y (w - y) (g - y) ax az) - (M.yNum y y (w - y) (g - y) sx sy) + 2 * hf).tmod (2 * hf))) (M.yNum y y (w - y) (g - y) sx sy)) (frp_H4 nm gs cs n k T U w g y a b r p q os m W u v s pa pl Z sx sy ax az hf ib kk (if (((M.yNum y y (w - y) (g - y) sx sy) - (M.yNum y y (w - y) (g - y) ax az) + 2 * hf).tmod (2 * hf)) < (((M.yNum y y (w - y) (g - y) ax az) - (M.yNum y y (w - y) (g - y) sx sy) + 2 * hf).tmod (2 * hf)) then (((M.yNum y y (w - y) (g - y) sx sy) - (M.yNum y y (w - y) (g - y) ax az) + 2 * hf).tmod (2 * hf)) else (((M.yNum y y (w - y) (g - y) ax az) - (M.yNum y y (w - y) (g - y) sx sy) + 2 * hf).tmod (2 * hf))) (M.yNum y y (w - y) (g - y) sx sy)))  : Meets cfx 0 10 (zq176 nm w g y n a b r p q k u v s m pl) (zq188 gs T cs U os W pa Z) (V.raw (.bool true)) (zq188 gs T cs U os W pa Z) := by
  refine Meets.post (meets_ev cfx_mixed cfx_call zz zb (n := 40) (ans := [Ans.go, Ans.go, zF, zF, zF, zF, zF, zF, zF, Ans.reth (iV 0) (zq131 gs T cs U os W pa Z nm w g y n a b r p q k u v), zF, zF, Ans.reth (V.raw (.tuple { toList := [.agg { toList := [.int .i64 ax, .int .i64 az] }, .int .i64 0] })) (zq131 gs T cs U os W pa Z nm w g y n a b r p q k u v), Ans.reth (V.raw (.tuple { toList := [.agg { toList := [.int .i64 sx, .int .i64 sy] }, .bool ib, .int .i64 0] })) (zq115 gs T cs U os W pa Z nm w g y n a b r p q k u v ax az), zF, Ans.reth (V.raw (.tuple { toList := [.agg { toList := [.int .i64 sx, .int .i64 sy] }, .int .i64 0] })) (zq105 gs T cs U os W pa Z nm w g y n a b r p q k u v ax az sx sy), Ans.reth (V.raw (.tuple { toList := [.int .i64 (M.yNum y y (w - y) (g - y) sx sy), .int .i64 0] })) (zq96 gs T cs U os W pa Z nm w g y n a b r p q k u v ax az sx sy), Ans.reth (V.raw (.tuple { toList := [.int .i64 (M.yNum y y (w - y) (g - y) ax az), .int .i64 0] })) (zq96 gs T cs U os W pa Z nm w g y n a b r p q k u v ax az sx sy), zF, zF, zF, zF, zF, zF, zF, zF, zF, Ans.reth (V.raw (.bool !M.tchA os m ax az s)) (zq96 gs T cs U os W pa Z nm w g y n a b r p q k u v ax az sx sy), zF, zF, Ans.reth (iV (2 * hf)) (zq96 gs T cs U os W pa Z nm w g y n a b r p q k u v ax az sx sy), Ans.olds [], Ans.loop (Ex.exit 0) (zq24 nm w g y n a b r p q k u v s m pl ib sx sy ax az hf kk) (zq96 gs T cs U os W pa Z nm w g y n a b r p q k u v ax az sx sy), Ans.reth (V.raw (.bool true)) (zq96 gs T cs U os W pa Z nm w g y n a b r p q k u v ax az sx sy)]) (v := V.raw (.bool true)) (h' := (zq96 gs T cs U os W pa Z nm w g y n a b r p q k u v ax az sx sy)) (cons := [(decide (100 < (nm.size : Int)) = false), (false = false), (decide (20 < (n : Int)) = false), (false = false), (decide (300 < (k : Int)) = false), (false = false), (decide (12 < (m : Int)) = false), ((zq74 nm w g y n a b r p q k gs T cs U os W pa Z u v)), (false = false), (false = false), ((zq61 nm w g y n a b r p q k u v s m gs T cs U os W pa Z ax az)), ((zq47 nm w g y n a b r p q k u v gs T cs U os W pa Z ax az sx sy ib)), (false = false), ((zq39 nm w g y n a b r p q k u v s gs T cs U os W pa Z ax az sx sy)), ((zq37 nm w g y n a b r p q k sx sy gs T cs U os W pa Z u v ax az)), ((zq38 nm w g y n a b r p q k ax az gs T cs U os W pa Z u v sx sy)), (false = false), (false = false), (false = false), (false = false), (false = false), (false = false), (false = false), (false = false), ((!(decide (sx = sx) && (decide (sy = sy) && true))) = false), ((zq40 ax az s m gs T cs U os W pa Z nm w g y n a b r p q k u v sx sy)), (false = false), ((!!M.tchA os m ax az s) = false), ((zq46 nm w g y n a b r p q k gs T cs U os W pa Z u v ax az sx sy hf)), (inR IntKind.i64 (M.yNum y y (w - y) (g - y) ax az - M.yNum y y (w - y) (g - y) sx sy)), (inR IntKind.i64 (M.yNum y y (w - y) (g - y) ax az - M.yNum y y (w - y) (g - y) sx sy + 2 * hf)), (2 * hf ≠ 0), (inR IntKind.i64 (M.yNum y y (w - y) (g - y) sx sy - M.yNum y y (w - y) (g - y) ax az)), (inR IntKind.i64 (M.yNum y y (w - y) (g - y) sx sy - M.yNum y y (w - y) (g - y) ax az + 2 * hf)), (2 * hf ≠ 0), ((zq1 nm w g y n a b r p q k u v s m pl ib sx sy ax az hf os gs T cs U W pa Z kk)), ((zq49 gs T cs U os W pa Z nm w g y n a b r p q k u v ax az sx sy))]) zk
    ⟨zdo, rfl, zdo, rfl, zdo, rfl, zdo, (by exact below2 (lim := 0) rfl rfl 0 1 (N := []) hC (mix_all _ _) (ints_all _) rfl (fun k X h => by simp at h) rfl rfl zz), rfl, rfl, (by exact below_ro (lim := 0) (N := []) rfl rfl (fun k => if k = 0 then 0 else if k = 1 then 1 else 2) (fun _ => false) hpu ⟨⟨_, _, rfl, mix_all _ _, .inl ⟨rfl, _, rfl⟩⟩, ⟨_, _, rfl, ints_all _, .inl ⟨rfl, _, rfl⟩⟩, ⟨_, _, rfl, ints_all _, .inl ⟨rfl, _, rfl⟩⟩, trivial⟩ (fun _ _ => rfl) rfl rfl rfl (fun k X h => by simp at h) zz), (by exact below2 (lim := 0) rfl rfl 0 1 (N := []) hsp (mix_all _ _) (ints_all _) rfl (fun k X h => by simp at h) rfl rfl zz), rfl, (by exact below_ro (lim := 0) (N := []) rfl rfl (fun k => if k = 0 then 0 else if k = 1 then 1 else 0) (fun k => k == 2) hpn ⟨⟨_, _, rfl, mix_all _ _, .inl ⟨rfl, _, rfl⟩⟩, ⟨_, _, rfl, ints_all _, .inl ⟨rfl, _, rfl⟩⟩, ⟨_, _, rfl, ints_all _, .inr ⟨rfl, rfl⟩⟩, trivial⟩ (fun k hk => by have hk2 : 3 ≤ k := hk; simp; omega) rfl rfl rfl (fun k X h => by simp at h) zz), (by first |exact below2 (lim := 0) rfl rfl 0 1 (N := []) hns (mix_all _ _) (ints_all _) rfl (fun k X h => by simp at h) rfl rfl zz |exact below2 (lim := 0) rfl rfl 0 1 (N := []) hna (mix_all _ _) (ints_all _) rfl (fun k X h => by simp at h) rfl rfl zz), (by first |exact below2 (lim := 0) rfl rfl 0 1 (N := []) hns (mix_all _ _) (ints_all _) rfl (fun k X h => by simp at h) rfl rfl zz |exact below2 (lim := 0) rfl rfl 0 1 (N := []) hna (mix_all _ _) (ints_all _) rfl (fun k X h => by simp at h) rfl rfl zz), rfl, rfl, rfl, rfl, rfl, rfl, rfl, rfl, zdf, (by exact below_ro (lim := 0) (N := []) rfl rfl (fun k => 2) (fun _ => false) (lwClear os m W _ _ _ hz zo hka hq2 hs2) ⟨⟨_, _, rfl, ints_all _, .inl ⟨rfl, _, rfl⟩⟩, trivial⟩ (fun _ _ => rfl) rfl rfl rfl (fun k X h => by simp at h) zz), rfl, zdf, (by exact below2 (lim := 0) rfl rfl 0 1 (N := []) hpc (mix_all _ _) (ints_all _) rfl (fun k X h => by simp at h) rfl rfl zz), inR_i64 zo zo, inR_i64 zo zo, zds, inR_i64 zo zo, inR_i64 zo zo, zds, (by
      refine Runs.pre (fun b e => by cases e) (fun RT RH => ?_) (hR)
      exact reshape2 (lim := 0) 10 (t := (zq3 nm w g y n a b r p q k u v s m pl ib sx sy ax az hf os)) (h := (zq96 gs T cs U os W pa Z nm w g y n a b r p q k u v ax az sx sy)) cfx_G rfl [] zk zk (by repeat first | exact ents_nil | refine ents_none ?_ | refine ents_raw (ints_all _) rfl rfl ?_ | refine ents_raw (bools_all _) rfl rfl ?_ | refine ents_raw (mix_all _ _) rfl rfl ?_ | refine ents_raw (mixk_all _ _) rfl rfl ?_ | refine ents_say rfl rfl rfl rfl ?_ | refine ents_nilC rfl rfl ?_) RT RH), (by exact below_ro (lim := 0) (N := []) rfl rfl (fun k => k) (fun _ => false) lnWorks trivial (fun _ _ => rfl) rfl rfl rfl (fun k X h => by simp at h) zz), trivial⟩) zk zt4
theorem fre_5 (os : List Int) (m : Nat) (W : Nat) (u v s : Int) (pa : List Int) (pl : Nat) (Z : Nat) (h1 : nm.size ≤ 100) (h2 : n ≤ 20) (h3 : k ≤ 300) (h4 : m ≤ 12) (hC : (zq181 nm w g y n a b r p q k gs T cs U)) (sx sy ax az hf : Int) (ib : Bool) (hpu : (zq116 nm w g y n a b r p q k u v s m gs T cs U os W ax az)) (hpn : (zq104 nm w g y n a b r p q k u v s gs T cs U sx sy)) (hsp : (zq138 nm w g y n a b r p q k u v gs T cs U sx sy ib)) (hns : (zq135 nm w g y n a b r p q k sx sy gs T cs U)) (hna : (zq136 nm w g y n a b r p q k ax az gs T cs U)) (hpc : (zq171 nm w g y n a b r p q k gs T cs U hf)) (hz : m * 3 ≤ os.length) (hzp : pl ≤ pa.length) (hka : M.okP ax az) (hcl : M.tchA os m ax az s = false) (hst : 0 ≤ (M.yNum y y (w - y) (g - y) sx sy) ∧ (M.yNum y y (w - y) (g - y) sx sy) ≤ 16777216) (hnv : 0 ≤ (M.yNum y y (w - y) (g - y) ax az) ∧ (M.yNum y y (w - y) (g - y) ax az) ≤ 16777216) (hf0 : 1 ≤ hf ∧ hf ≤ 8388608) (hd1 : 0 ≤ (((M.yNum y y (w - y) (g - y) ax az) - (M.yNum y y (w - y) (g - y) sx sy) + 2 * hf).tmod (2 * hf)) ∧ (((M.yNum y y (w - y) (g - y) ax az) - (M.yNum y y (w - y) (g - y) sx sy) + 2 * hf).tmod (2 * hf)) < 2 * hf) (hd2 : 0 ≤ (((M.yNum y y (w - y) (g - y) sx sy) - (M.yNum y y (w - y) (g - y) ax az) + 2 * hf).tmod (2 * hf)) ∧ (((M.yNum y y (w - y) (g - y) sx sy) - (M.yNum y y (w - y) (g - y) ax az) + 2 * hf).tmod (2 * hf)) < 2 * hf) (hw : (65536 ≤ w ∧ w ≤ 4194304) ∧ (65536 ≤ g ∧ g ≤ 4194304) ∧ (0 ≤ y ∧ y ≤ 1048576) ∧ 2 * y ≤ w - 2 ∧ 2 * y ≤ g - 2) (hq2 : ∀ i : Nat, i < m → M.okP (at' os (i * 3)) (at' os (i * 3 + 1)) ∧ 1 ≤ at' os (i * 3 + 2) ∧ at' os (i * 3 + 2) ≤ 16384) (hs2 : 1 ≤ s ∧ s ≤ 16384) (hpl : ∀ j : Int, 0 ≤ j → j < 2 * hf → M.okP (M.yX y y (w - y) (g - y) j) (M.yY y y (w - y) (g - y) j)) (kk : Int) (hR : Runs cfx 0 10 none (.loop (loopOf cfx.P 10 0)) (frp_T nm gs cs n k T U w g y a b r p q os m W u v s pa pl Z sx sy ax az hf ib 0 (if (((M.yNum y y (w - y) (g - y) sx sy) - (M.yNum y y (w - y) (g - y) ax az) + 2 * hf).tmod (2 * hf)) < (((M.yNum y y (w - y) (g - y) ax az) - (M.yNum y y (w - y) (g - y) sx sy) + 2 * hf).tmod (2 * hf)) then (((M.yNum y y (w - y) (g - y) sx sy) - (M.yNum y y (w - y) (g - y) ax az) + 2 * hf).tmod (2 * hf)) else (((M.yNum y y (w - y) (g - y) ax az) - (M.yNum y y (w - y) (g - y) sx sy) + 2 * hf).tmod (2 * hf))) (M.yNum y y (w - y) (g - y) sx sy)) (frp_H nm gs cs n k T U w g y a b r p q os m W u v s pa pl Z sx sy ax az hf ib 0 (if (((M.yNum y y (w - y) (g - y) sx sy) - (M.yNum y y (w - y) (g - y) ax az) + 2 * hf).tmod (2 * hf)) < (((M.yNum y y (w - y) (g - y) ax az) - (M.yNum y y (w - y) (g - y) sx sy) + 2 * hf).tmod (2 * hf)) then (((M.yNum y y (w - y) (g - y) sx sy) - (M.yNum y y (w - y) (g - y) ax az) + 2 * hf).tmod (2 * hf)) else (((M.yNum y y (w - y) (g - y) ax az) - (M.yNum y y (w - y) (g - y) sx sy) + 2 * hf).tmod (2 * hf))) (M.yNum y y (w - y) (g - y) sx sy)) (.exit 0) (frp_T5 nm gs cs n k T U w g y a b r p q os m W u v s pa pl Z sx sy ax az hf ib kk (if (((M.yNum y y (w - y) (g - y) sx sy) - (M.yNum y y (w - y) (g - y) ax az) + 2 * hf).tmod (2 * hf)) < (((M.yNum y y (w - y) (g - y) ax az) - (M.yNum y y (w - y) (g - y) sx sy) + 2 * hf).tmod (2 * hf)) then (((M.yNum y y (w - y) (g - y) sx sy) - (M.yNum y y (w - y) (g - y) ax az) + 2 * hf).tmod (2 * hf)) else (((M.yNum y y (w - y) (g - y) ax az) - (M.yNum y y (w - y) (g - y) sx sy) + 2 * hf).tmod (2 * hf))) (M.yNum y y (w - y) (g - y) sx sy)) (frp_H5 nm gs cs n k T U w g y a b r p q os m W u v s pa pl Z sx sy ax az hf ib kk (if (((M.yNum y y (w - y) (g - y) sx sy) - (M.yNum y y (w - y) (g - y) ax az) + 2 * hf).tmod (2 * hf)) < (((M.yNum y y (w - y) (g - y) ax az) - (M.yNum y y (w - y) (g - y) sx sy) + 2 * hf).tmod (2 * hf)) then (((M.yNum y y (w - y) (g - y) sx sy) - (M.yNum y y (w - y) (g - y) ax az) + 2 * hf).tmod (2 * hf)) else (((M.yNum y y (w - y) (g - y) ax az) - (M.yNum y y (w - y) (g - y) sx sy) + 2 * hf).tmod (2 * hf))) (M.yNum y y (w - y) (g - y) sx sy)))  : Meets cfx 0 10 (zq176 nm w g y n a b r p q k u v s m pl) (zq188 gs T cs U os W pa Z) (V.raw (.bool true)) (zq188 gs T cs U os W pa Z) := by
  refine Meets.post (meets_ev cfx_mixed cfx_call zz zb (n := 40) (ans := [Ans.go, Ans.go, zF, zF, zF, zF, zF, zF, zF, Ans.reth (iV 0) (zq131 gs T cs U os W pa Z nm w g y n a b r p q k u v), zF, zF, Ans.reth (V.raw (.tuple { toList := [.agg { toList := [.int .i64 ax, .int .i64 az] }, .int .i64 0] })) (zq131 gs T cs U os W pa Z nm w g y n a b r p q k u v), Ans.reth (V.raw (.tuple { toList := [.agg { toList := [.int .i64 sx, .int .i64 sy] }, .bool ib, .int .i64 0] })) (zq115 gs T cs U os W pa Z nm w g y n a b r p q k u v ax az), zF, Ans.reth (V.raw (.tuple { toList := [.agg { toList := [.int .i64 sx, .int .i64 sy] }, .int .i64 0] })) (zq105 gs T cs U os W pa Z nm w g y n a b r p q k u v ax az sx sy), Ans.reth (V.raw (.tuple { toList := [.int .i64 (M.yNum y y (w - y) (g - y) sx sy), .int .i64 0] })) (zq96 gs T cs U os W pa Z nm w g y n a b r p q k u v ax az sx sy), Ans.reth (V.raw (.tuple { toList := [.int .i64 (M.yNum y y (w - y) (g - y) ax az), .int .i64 0] })) (zq96 gs T cs U os W pa Z nm w g y n a b r p q k u v ax az sx sy), zF, zF, zF, zF, zF, zF, zF, zF, zF, Ans.reth (V.raw (.bool !M.tchA os m ax az s)) (zq96 gs T cs U os W pa Z nm w g y n a b r p q k u v ax az sx sy), zF, zF, Ans.reth (iV (2 * hf)) (zq96 gs T cs U os W pa Z nm w g y n a b r p q k u v ax az sx sy), Ans.olds [], Ans.loop (Ex.exit 0) (zq24 nm w g y n a b r p q k u v s m pl ib sx sy ax az hf kk) (zq96 gs T cs U os W pa Z nm w g y n a b r p q k u v ax az sx sy), Ans.reth (V.raw (.bool true)) (zq96 gs T cs U os W pa Z nm w g y n a b r p q k u v ax az sx sy)]) (v := V.raw (.bool true)) (h' := (zq96 gs T cs U os W pa Z nm w g y n a b r p q k u v ax az sx sy)) (cons := [(decide (100 < (nm.size : Int)) = false), (false = false), (decide (20 < (n : Int)) = false), (false = false), (decide (300 < (k : Int)) = false), (false = false), (decide (12 < (m : Int)) = false), ((zq74 nm w g y n a b r p q k gs T cs U os W pa Z u v)), (false = false), (false = false), ((zq61 nm w g y n a b r p q k u v s m gs T cs U os W pa Z ax az)), ((zq47 nm w g y n a b r p q k u v gs T cs U os W pa Z ax az sx sy ib)), (false = false), ((zq39 nm w g y n a b r p q k u v s gs T cs U os W pa Z ax az sx sy)), ((zq37 nm w g y n a b r p q k sx sy gs T cs U os W pa Z u v ax az)), ((zq38 nm w g y n a b r p q k ax az gs T cs U os W pa Z u v sx sy)), (false = false), (false = false), (false = false), (false = false), (false = false), (false = false), (false = false), (false = false), ((!(decide (sx = sx) && (decide (sy = sy) && true))) = false), ((zq40 ax az s m gs T cs U os W pa Z nm w g y n a b r p q k u v sx sy)), (false = false), ((!!M.tchA os m ax az s) = false), ((zq46 nm w g y n a b r p q k gs T cs U os W pa Z u v ax az sx sy hf)), (inR IntKind.i64 (M.yNum y y (w - y) (g - y) ax az - M.yNum y y (w - y) (g - y) sx sy)), (inR IntKind.i64 (M.yNum y y (w - y) (g - y) ax az - M.yNum y y (w - y) (g - y) sx sy + 2 * hf)), (2 * hf ≠ 0), (inR IntKind.i64 (M.yNum y y (w - y) (g - y) sx sy - M.yNum y y (w - y) (g - y) ax az)), (inR IntKind.i64 (M.yNum y y (w - y) (g - y) sx sy - M.yNum y y (w - y) (g - y) ax az + 2 * hf)), (2 * hf ≠ 0), ((zq1 nm w g y n a b r p q k u v s m pl ib sx sy ax az hf os gs T cs U W pa Z kk)), ((zq49 gs T cs U os W pa Z nm w g y n a b r p q k u v ax az sx sy))]) zk
    ⟨zdo, rfl, zdo, rfl, zdo, rfl, zdo, (by exact below2 (lim := 0) rfl rfl 0 1 (N := []) hC (mix_all _ _) (ints_all _) rfl (fun k X h => by simp at h) rfl rfl zz), rfl, rfl, (by exact below_ro (lim := 0) (N := []) rfl rfl (fun k => if k = 0 then 0 else if k = 1 then 1 else 2) (fun _ => false) hpu ⟨⟨_, _, rfl, mix_all _ _, .inl ⟨rfl, _, rfl⟩⟩, ⟨_, _, rfl, ints_all _, .inl ⟨rfl, _, rfl⟩⟩, ⟨_, _, rfl, ints_all _, .inl ⟨rfl, _, rfl⟩⟩, trivial⟩ (fun _ _ => rfl) rfl rfl rfl (fun k X h => by simp at h) zz), (by exact below2 (lim := 0) rfl rfl 0 1 (N := []) hsp (mix_all _ _) (ints_all _) rfl (fun k X h => by simp at h) rfl rfl zz), rfl, (by exact below_ro (lim := 0) (N := []) rfl rfl (fun k => if k = 0 then 0 else if k = 1 then 1 else 0) (fun k => k == 2) hpn ⟨⟨_, _, rfl, mix_all _ _, .inl ⟨rfl, _, rfl⟩⟩, ⟨_, _, rfl, ints_all _, .inl ⟨rfl, _, rfl⟩⟩, ⟨_, _, rfl, ints_all _, .inr ⟨rfl, rfl⟩⟩, trivial⟩ (fun k hk => by have hk2 : 3 ≤ k := hk; simp; omega) rfl rfl rfl (fun k X h => by simp at h) zz), (by first |exact below2 (lim := 0) rfl rfl 0 1 (N := []) hns (mix_all _ _) (ints_all _) rfl (fun k X h => by simp at h) rfl rfl zz |exact below2 (lim := 0) rfl rfl 0 1 (N := []) hna (mix_all _ _) (ints_all _) rfl (fun k X h => by simp at h) rfl rfl zz), (by first |exact below2 (lim := 0) rfl rfl 0 1 (N := []) hns (mix_all _ _) (ints_all _) rfl (fun k X h => by simp at h) rfl rfl zz |exact below2 (lim := 0) rfl rfl 0 1 (N := []) hna (mix_all _ _) (ints_all _) rfl (fun k X h => by simp at h) rfl rfl zz), rfl, rfl, rfl, rfl, rfl, rfl, rfl, rfl, zdf, (by exact below_ro (lim := 0) (N := []) rfl rfl (fun k => 2) (fun _ => false) (lwClear os m W _ _ _ hz zo hka hq2 hs2) ⟨⟨_, _, rfl, ints_all _, .inl ⟨rfl, _, rfl⟩⟩, trivial⟩ (fun _ _ => rfl) rfl rfl rfl (fun k X h => by simp at h) zz), rfl, zdf, (by exact below2 (lim := 0) rfl rfl 0 1 (N := []) hpc (mix_all _ _) (ints_all _) rfl (fun k X h => by simp at h) rfl rfl zz), inR_i64 zo zo, inR_i64 zo zo, zds, inR_i64 zo zo, inR_i64 zo zo, zds, (by
      refine Runs.pre (fun b e => by cases e) (fun RT RH => ?_) (hR)
      exact reshape2 (lim := 0) 10 (t := (zq3 nm w g y n a b r p q k u v s m pl ib sx sy ax az hf os)) (h := (zq96 gs T cs U os W pa Z nm w g y n a b r p q k u v ax az sx sy)) cfx_G rfl [] zk zk (by repeat first | exact ents_nil | refine ents_none ?_ | refine ents_raw (ints_all _) rfl rfl ?_ | refine ents_raw (bools_all _) rfl rfl ?_ | refine ents_raw (mix_all _ _) rfl rfl ?_ | refine ents_raw (mixk_all _ _) rfl rfl ?_ | refine ents_say rfl rfl rfl rfl ?_ | refine ents_nilC rfl rfl ?_) RT RH), (by exact below_ro (lim := 0) (N := []) rfl rfl (fun k => k) (fun _ => false) lnWorks trivial (fun _ _ => rfl) rfl rfl rfl (fun k X h => by simp at h) zz), trivial⟩) zk zt4
theorem fre_6 (os : List Int) (m : Nat) (W : Nat) (u v s : Int) (pa : List Int) (pl : Nat) (Z : Nat) (h1 : nm.size ≤ 100) (h2 : n ≤ 20) (h3 : k ≤ 300) (h4 : m ≤ 12) (hC : (zq181 nm w g y n a b r p q k gs T cs U)) (sx sy ax az hf : Int) (ib : Bool) (hpu : (zq116 nm w g y n a b r p q k u v s m gs T cs U os W ax az)) (hpn : (zq104 nm w g y n a b r p q k u v s gs T cs U sx sy)) (hsp : (zq138 nm w g y n a b r p q k u v gs T cs U sx sy ib)) (hns : (zq135 nm w g y n a b r p q k sx sy gs T cs U)) (hna : (zq136 nm w g y n a b r p q k ax az gs T cs U)) (hpc : (zq171 nm w g y n a b r p q k gs T cs U hf)) (hz : m * 3 ≤ os.length) (hzp : pl ≤ pa.length) (hka : M.okP ax az) (hcl : M.tchA os m ax az s = false) (hst : 0 ≤ (M.yNum y y (w - y) (g - y) sx sy) ∧ (M.yNum y y (w - y) (g - y) sx sy) ≤ 16777216) (hnv : 0 ≤ (M.yNum y y (w - y) (g - y) ax az) ∧ (M.yNum y y (w - y) (g - y) ax az) ≤ 16777216) (hf0 : 1 ≤ hf ∧ hf ≤ 8388608) (hd1 : 0 ≤ (((M.yNum y y (w - y) (g - y) ax az) - (M.yNum y y (w - y) (g - y) sx sy) + 2 * hf).tmod (2 * hf)) ∧ (((M.yNum y y (w - y) (g - y) ax az) - (M.yNum y y (w - y) (g - y) sx sy) + 2 * hf).tmod (2 * hf)) < 2 * hf) (hd2 : 0 ≤ (((M.yNum y y (w - y) (g - y) sx sy) - (M.yNum y y (w - y) (g - y) ax az) + 2 * hf).tmod (2 * hf)) ∧ (((M.yNum y y (w - y) (g - y) sx sy) - (M.yNum y y (w - y) (g - y) ax az) + 2 * hf).tmod (2 * hf)) < 2 * hf) (hw : (65536 ≤ w ∧ w ≤ 4194304) ∧ (65536 ≤ g ∧ g ≤ 4194304) ∧ (0 ≤ y ∧ y ≤ 1048576) ∧ 2 * y ≤ w - 2 ∧ 2 * y ≤ g - 2) (hq2 : ∀ i : Nat, i < m → M.okP (at' os (i * 3)) (at' os (i * 3 + 1)) ∧ 1 ≤ at' os (i * 3 + 2) ∧ at' os (i * 3 + 2) ≤ 16384) (hs2 : 1 ≤ s ∧ s ≤ 16384) (hpl : ∀ j : Int, 0 ≤ j → j < 2 * hf → M.okP (M.yX y y (w - y) (g - y) j) (M.yY y y (w - y) (g - y) j)) (kk : Int) (hR : Runs cfx 0 10 none (.loop (loopOf cfx.P 10 0)) (frp_T nm gs cs n k T U w g y a b r p q os m W u v s pa pl Z sx sy ax az hf ib 0 (if (((M.yNum y y (w - y) (g - y) sx sy) - (M.yNum y y (w - y) (g - y) ax az) + 2 * hf).tmod (2 * hf)) < (((M.yNum y y (w - y) (g - y) ax az) - (M.yNum y y (w - y) (g - y) sx sy) + 2 * hf).tmod (2 * hf)) then (((M.yNum y y (w - y) (g - y) sx sy) - (M.yNum y y (w - y) (g - y) ax az) + 2 * hf).tmod (2 * hf)) else (((M.yNum y y (w - y) (g - y) ax az) - (M.yNum y y (w - y) (g - y) sx sy) + 2 * hf).tmod (2 * hf))) (M.yNum y y (w - y) (g - y) sx sy)) (frp_H nm gs cs n k T U w g y a b r p q os m W u v s pa pl Z sx sy ax az hf ib 0 (if (((M.yNum y y (w - y) (g - y) sx sy) - (M.yNum y y (w - y) (g - y) ax az) + 2 * hf).tmod (2 * hf)) < (((M.yNum y y (w - y) (g - y) ax az) - (M.yNum y y (w - y) (g - y) sx sy) + 2 * hf).tmod (2 * hf)) then (((M.yNum y y (w - y) (g - y) sx sy) - (M.yNum y y (w - y) (g - y) ax az) + 2 * hf).tmod (2 * hf)) else (((M.yNum y y (w - y) (g - y) ax az) - (M.yNum y y (w - y) (g - y) sx sy) + 2 * hf).tmod (2 * hf))) (M.yNum y y (w - y) (g - y) sx sy)) (.exit 0) (frp_T6 nm gs cs n k T U w g y a b r p q os m W u v s pa pl Z sx sy ax az hf ib kk (if (((M.yNum y y (w - y) (g - y) sx sy) - (M.yNum y y (w - y) (g - y) ax az) + 2 * hf).tmod (2 * hf)) < (((M.yNum y y (w - y) (g - y) ax az) - (M.yNum y y (w - y) (g - y) sx sy) + 2 * hf).tmod (2 * hf)) then (((M.yNum y y (w - y) (g - y) sx sy) - (M.yNum y y (w - y) (g - y) ax az) + 2 * hf).tmod (2 * hf)) else (((M.yNum y y (w - y) (g - y) ax az) - (M.yNum y y (w - y) (g - y) sx sy) + 2 * hf).tmod (2 * hf))) (M.yNum y y (w - y) (g - y) sx sy)) (frp_H6 nm gs cs n k T U w g y a b r p q os m W u v s pa pl Z sx sy ax az hf ib kk (if (((M.yNum y y (w - y) (g - y) sx sy) - (M.yNum y y (w - y) (g - y) ax az) + 2 * hf).tmod (2 * hf)) < (((M.yNum y y (w - y) (g - y) ax az) - (M.yNum y y (w - y) (g - y) sx sy) + 2 * hf).tmod (2 * hf)) then (((M.yNum y y (w - y) (g - y) sx sy) - (M.yNum y y (w - y) (g - y) ax az) + 2 * hf).tmod (2 * hf)) else (((M.yNum y y (w - y) (g - y) ax az) - (M.yNum y y (w - y) (g - y) sx sy) + 2 * hf).tmod (2 * hf))) (M.yNum y y (w - y) (g - y) sx sy)))  : Meets cfx 0 10 (zq176 nm w g y n a b r p q k u v s m pl) (zq188 gs T cs U os W pa Z) (V.raw (.bool true)) (zq188 gs T cs U os W pa Z) := by
  refine Meets.post (meets_ev cfx_mixed cfx_call zz zb (n := 40) (ans := [Ans.go, Ans.go, zF, zF, zF, zF, zF, zF, zF, Ans.reth (iV 0) (zq131 gs T cs U os W pa Z nm w g y n a b r p q k u v), zF, zF, Ans.reth (V.raw (.tuple { toList := [.agg { toList := [.int .i64 ax, .int .i64 az] }, .int .i64 0] })) (zq131 gs T cs U os W pa Z nm w g y n a b r p q k u v), Ans.reth (V.raw (.tuple { toList := [.agg { toList := [.int .i64 sx, .int .i64 sy] }, .bool ib, .int .i64 0] })) (zq115 gs T cs U os W pa Z nm w g y n a b r p q k u v ax az), zF, Ans.reth (V.raw (.tuple { toList := [.agg { toList := [.int .i64 sx, .int .i64 sy] }, .int .i64 0] })) (zq105 gs T cs U os W pa Z nm w g y n a b r p q k u v ax az sx sy), Ans.reth (V.raw (.tuple { toList := [.int .i64 (M.yNum y y (w - y) (g - y) sx sy), .int .i64 0] })) (zq96 gs T cs U os W pa Z nm w g y n a b r p q k u v ax az sx sy), Ans.reth (V.raw (.tuple { toList := [.int .i64 (M.yNum y y (w - y) (g - y) ax az), .int .i64 0] })) (zq96 gs T cs U os W pa Z nm w g y n a b r p q k u v ax az sx sy), zF, zF, zF, zF, zF, zF, zF, zF, zF, Ans.reth (V.raw (.bool !M.tchA os m ax az s)) (zq96 gs T cs U os W pa Z nm w g y n a b r p q k u v ax az sx sy), zF, zF, Ans.reth (iV (2 * hf)) (zq96 gs T cs U os W pa Z nm w g y n a b r p q k u v ax az sx sy), Ans.olds [], Ans.loop (Ex.exit 0) (zq24 nm w g y n a b r p q k u v s m pl ib sx sy ax az hf kk) (zq96 gs T cs U os W pa Z nm w g y n a b r p q k u v ax az sx sy), Ans.reth (V.raw (.bool true)) (zq96 gs T cs U os W pa Z nm w g y n a b r p q k u v ax az sx sy)]) (v := V.raw (.bool true)) (h' := (zq96 gs T cs U os W pa Z nm w g y n a b r p q k u v ax az sx sy)) (cons := [(decide (100 < (nm.size : Int)) = false), (false = false), (decide (20 < (n : Int)) = false), (false = false), (decide (300 < (k : Int)) = false), (false = false), (decide (12 < (m : Int)) = false), ((zq74 nm w g y n a b r p q k gs T cs U os W pa Z u v)), (false = false), (false = false), ((zq61 nm w g y n a b r p q k u v s m gs T cs U os W pa Z ax az)), ((zq47 nm w g y n a b r p q k u v gs T cs U os W pa Z ax az sx sy ib)), (false = false), ((zq39 nm w g y n a b r p q k u v s gs T cs U os W pa Z ax az sx sy)), ((zq37 nm w g y n a b r p q k sx sy gs T cs U os W pa Z u v ax az)), ((zq38 nm w g y n a b r p q k ax az gs T cs U os W pa Z u v sx sy)), (false = false), (false = false), (false = false), (false = false), (false = false), (false = false), (false = false), (false = false), ((!(decide (sx = sx) && (decide (sy = sy) && true))) = false), ((zq40 ax az s m gs T cs U os W pa Z nm w g y n a b r p q k u v sx sy)), (false = false), ((!!M.tchA os m ax az s) = false), ((zq46 nm w g y n a b r p q k gs T cs U os W pa Z u v ax az sx sy hf)), (inR IntKind.i64 (M.yNum y y (w - y) (g - y) ax az - M.yNum y y (w - y) (g - y) sx sy)), (inR IntKind.i64 (M.yNum y y (w - y) (g - y) ax az - M.yNum y y (w - y) (g - y) sx sy + 2 * hf)), (2 * hf ≠ 0), (inR IntKind.i64 (M.yNum y y (w - y) (g - y) sx sy - M.yNum y y (w - y) (g - y) ax az)), (inR IntKind.i64 (M.yNum y y (w - y) (g - y) sx sy - M.yNum y y (w - y) (g - y) ax az + 2 * hf)), (2 * hf ≠ 0), ((zq1 nm w g y n a b r p q k u v s m pl ib sx sy ax az hf os gs T cs U W pa Z kk)), ((zq49 gs T cs U os W pa Z nm w g y n a b r p q k u v ax az sx sy))]) zk
    ⟨zdo, rfl, zdo, rfl, zdo, rfl, zdo, (by exact below2 (lim := 0) rfl rfl 0 1 (N := []) hC (mix_all _ _) (ints_all _) rfl (fun k X h => by simp at h) rfl rfl zz), rfl, rfl, (by exact below_ro (lim := 0) (N := []) rfl rfl (fun k => if k = 0 then 0 else if k = 1 then 1 else 2) (fun _ => false) hpu ⟨⟨_, _, rfl, mix_all _ _, .inl ⟨rfl, _, rfl⟩⟩, ⟨_, _, rfl, ints_all _, .inl ⟨rfl, _, rfl⟩⟩, ⟨_, _, rfl, ints_all _, .inl ⟨rfl, _, rfl⟩⟩, trivial⟩ (fun _ _ => rfl) rfl rfl rfl (fun k X h => by simp at h) zz), (by exact below2 (lim := 0) rfl rfl 0 1 (N := []) hsp (mix_all _ _) (ints_all _) rfl (fun k X h => by simp at h) rfl rfl zz), rfl, (by exact below_ro (lim := 0) (N := []) rfl rfl (fun k => if k = 0 then 0 else if k = 1 then 1 else 0) (fun k => k == 2) hpn ⟨⟨_, _, rfl, mix_all _ _, .inl ⟨rfl, _, rfl⟩⟩, ⟨_, _, rfl, ints_all _, .inl ⟨rfl, _, rfl⟩⟩, ⟨_, _, rfl, ints_all _, .inr ⟨rfl, rfl⟩⟩, trivial⟩ (fun k hk => by have hk2 : 3 ≤ k := hk; simp; omega) rfl rfl rfl (fun k X h => by simp at h) zz), (by first |exact below2 (lim := 0) rfl rfl 0 1 (N := []) hns (mix_all _ _) (ints_all _) rfl (fun k X h => by simp at h) rfl rfl zz |exact below2 (lim := 0) rfl rfl 0 1 (N := []) hna (mix_all _ _) (ints_all _) rfl (fun k X h => by simp at h) rfl rfl zz), (by first |exact below2 (lim := 0) rfl rfl 0 1 (N := []) hns (mix_all _ _) (ints_all _) rfl (fun k X h => by simp at h) rfl rfl zz |exact below2 (lim := 0) rfl rfl 0 1 (N := []) hna (mix_all _ _) (ints_all _) rfl (fun k X h => by simp at h) rfl rfl zz), rfl, rfl, rfl, rfl, rfl, rfl, rfl, rfl, zdf, (by exact below_ro (lim := 0) (N := []) rfl rfl (fun k => 2) (fun _ => false) (lwClear os m W _ _ _ hz zo hka hq2 hs2) ⟨⟨_, _, rfl, ints_all _, .inl ⟨rfl, _, rfl⟩⟩, trivial⟩ (fun _ _ => rfl) rfl rfl rfl (fun k X h => by simp at h) zz), rfl, zdf, (by exact below2 (lim := 0) rfl rfl 0 1 (N := []) hpc (mix_all _ _) (ints_all _) rfl (fun k X h => by simp at h) rfl rfl zz), inR_i64 zo zo, inR_i64 zo zo, zds, inR_i64 zo zo, inR_i64 zo zo, zds, (by
      refine Runs.pre (fun b e => by cases e) (fun RT RH => ?_) (hR)
      exact reshape2 (lim := 0) 10 (t := (zq3 nm w g y n a b r p q k u v s m pl ib sx sy ax az hf os)) (h := (zq96 gs T cs U os W pa Z nm w g y n a b r p q k u v ax az sx sy)) cfx_G rfl [] zk zk (by repeat first | exact ents_nil | refine ents_none ?_ | refine ents_raw (ints_all _) rfl rfl ?_ | refine ents_raw (bools_all _) rfl rfl ?_ | refine ents_raw (mix_all _ _) rfl rfl ?_ | refine ents_raw (mixk_all _ _) rfl rfl ?_ | refine ents_say rfl rfl rfl rfl ?_ | refine ents_nilC rfl rfl ?_) RT RH), (by exact below_ro (lim := 0) (N := []) rfl rfl (fun k => k) (fun _ => false) lnWorks trivial (fun _ _ => rfl) rfl rfl rfl (fun k X h => by simp at h) zz), trivial⟩) zk zt4
end Go.Proofs.Ytmelbcmfahcffaa
end
section
namespace Go.Proofs.Ytmelbcmfahcffaa
open Go Go.RowKit Go.Proofs.Ytmelbcmfahcffaa.E2
variable (nm : ByteArray) (gs cs : List Int) (n k : Nat) (T U : Nat) (w g y a b r p q : Int)
theorem lnPutV (os : List Int) (m : Nat) (W : Nat) (u v s : Int) (hzg : n * 5 ≤ gs.length) (hzc : k * 3 ≤ cs.length) (hn : n ≤ 20) (hk : k ≤ 300) (hnm : nm.size ≤ 100) (hz : m * 3 ≤ os.length) (hmb : m ≤ 1000000) : (∃ e : Int, ¬ e = 0 ∧ Meets cfx 0 39 (zq184 nm w g y n a b r p q k u v s m) [bkG gs T, bkI cs U, bkI os W] (.raw (.tuple #[.agg #[.int .i64 0, .int .i64 0], .int .i64 e])) [bkG gs T, bkI cs U, bkI os W] ∧ (¬ M.ball1E (M.lawnE nm gs cs n k w g y a b r p q) u v s os m = 0 ∨ M.yHas y y (w - y) (g - y) (M.ySp u y (w - y)) (M.ySp v y (g - y)) = false ∨ M.tchA os m (M.yX y y (w - y) (g - y) (((M.yNum y y (w - y) (g - y) (M.ySp u y (w - y)) (M.ySp v y (g - y))) + ((0 : Nat) : Int)).tmod (2 * M.yHalf y y (w - y) (g - y)))) (M.yY y y (w - y) (g - y) (((M.yNum y y (w - y) (g - y) (M.ySp u y (w - y)) (M.ySp v y (g - y))) + ((0 : Nat) : Int)).tmod (2 * M.yHalf y y (w - y) (g - y)))) s = true)) ∨ (M.lawnE nm gs cs n k w g y a b r p q = 0 ∧ M.ptE u v = 0 ∧ M.ballE s os m = 0 ∧ M.yHas y y (w - y) (g - y) (M.ySp u y (w - y)) (M.ySp v y (g - y)) = true ∧ ∃ (i : Nat) (z : Int), (i : Int) ≤ M.yHalf y y (w - y) (g - y) ∧ (∀ j : Nat, j < i → M.tchA os m (M.yX y y (w - y) (g - y) (((M.yNum y y (w - y) (g - y) (M.ySp u y (w - y)) (M.ySp v y (g - y))) + (j : Int)).tmod (2 * M.yHalf y y (w - y) (g - y)))) (M.yY y y (w - y) (g - y) (((M.yNum y y (w - y) (g - y) (M.ySp u y (w - y)) (M.ySp v y (g - y))) + (j : Int)).tmod (2 * M.yHalf y y (w - y) (g - y)))) s = true ∧ M.tchA os m (M.yX y y (w - y) (g - y) (((M.yNum y y (w - y) (g - y) (M.ySp u y (w - y)) (M.ySp v y (g - y))) - (j : Int) + 2 * M.yHalf y y (w - y) (g - y)).tmod (2 * M.yHalf y y (w - y) (g - y)))) (M.yY y y (w - y) (g - y) (((M.yNum y y (w - y) (g - y) (M.ySp u y (w - y)) (M.ySp v y (g - y))) - (j : Int) + 2 * M.yHalf y y (w - y) (g - y)).tmod (2 * M.yHalf y y (w - y) (g - y)))) s = true) ∧ (z = (((M.yNum y y (w - y) (g - y) (M.ySp u y (w - y)) (M.ySp v y (g - y))) + (i : Int)).tmod (2 * M.yHalf y y (w - y) (g - y))) ∨ (z = (((M.yNum y y (w - y) (g - y) (M.ySp u y (w - y)) (M.ySp v y (g - y))) - (i : Int) + 2 * M.yHalf y y (w - y) (g - y)).tmod (2 * M.yHalf y y (w - y) (g - y))) ∧ M.tchA os m (M.yX y y (w - y) (g - y) (((M.yNum y y (w - y) (g - y) (M.ySp u y (w - y)) (M.ySp v y (g - y))) + (i : Int)).tmod (2 * M.yHalf y y (w - y) (g - y)))) (M.yY y y (w - y) (g - y) (((M.yNum y y (w - y) (g - y) (M.ySp u y (w - y)) (M.ySp v y (g - y))) + (i : Int)).tmod (2 * M.yHalf y y (w - y) (g - y)))) s = true)) ∧ M.tchA os m (M.yX y y (w - y) (g - y) z) (M.yY y y (w - y) (g - y) z) s = false ∧ Meets cfx 0 39 (zq184 nm w g y n a b r p q k u v s m) [bkG gs T, bkI cs U, bkI os W] (.raw (.tuple #[.agg #[.int .i64 (M.yX y y (w - y) (g - y) z), .int .i64 (M.yY y y (w - y) (g - y) z)], .int .i64 0])) [bkG gs T, bkI cs U, bkI os W]) := by
  have hC := lnCheck nm gs cs n k T U w g y a b r p q hzg hzc hn hk hnm
  have hB := lnBall1 nm gs cs n k T U w g y a b r p q _ hC os m W u v s hz hmb
  by_cases he : M.ball1E (M.lawnE nm gs cs n k w g y a b r p q) u v s os m = 0
  case neg => exact .inl ⟨_, he, lnPut_B nm gs cs n k T U w g y a b r p q os m W u v s hz _ he hB, .inl he⟩
  rw [he] at hB
  have hE : M.lawnE nm gs cs n k w g y a b r p q = 0 := by
    unfold M.ball1E at he
    by_cases h : M.lawnE nm gs cs n k w g y a b r p q = 0
    · exact h
    · rw [if_pos h] at he; exact absurd he h
  rw [hE] at he
  have hP : M.ptE u v = 0 := by
    unfold M.ball1E at he
    rw [if_neg (by simp)] at he
    by_cases h : M.ptE u v = 0
    · exact h
    · rw [if_pos h] at he; exact absurd he h
  rw [M.ball1_eq hP] at he
  have hw := M.lawn_sides hE
  have hP2 := M.pt_iff.1 hP
  have hwg : (0 ≤ w ∧ w ≤ 4194304) ∧ (0 ≤ g ∧ g ≤ 4194304) ∧ (0 ≤ y ∧ y ≤ 1048576) := ⟨⟨by omega, hw.1.2⟩, ⟨by omega, hw.2.1.2⟩, hw.2.2.1⟩
  have hsp1 := lnSpot y y (w - y) (g - y) u v
  have hha := lnHas y y (w - y) (g - y) (M.ySp u y (w - y)) (M.ySp v y (g - y))
  have hin := M.sp_in hw (u := u) (v := v)
  cases hh : M.yHas y y (w - y) (g - y) (M.ySp u y (w - y)) (M.ySp v y (g - y)) with
  | false =>
    rw [hh] at hha
    exact .inl ⟨5, by omega, lnPut_H nm gs cs n k T U w g y a b r p q os m W u v s hz hB hwg _ _ hsp1 hha, .inr (.inl rfl)⟩
  | true =>
  rw [hh] at hha
  have hyb : (-10000000 ≤ y ∧ y ≤ 10000000) ∧ (-10000000 ≤ y ∧ y ≤ 10000000) ∧ (-10000000 ≤ w - y ∧ w - y ≤ 10000000) ∧ (-10000000 ≤ g - y ∧ g - y ≤ 10000000) := by omega
  have hnu := lnNum y y (w - y) (g - y) (M.ySp u y (w - y)) (M.ySp v y (g - y)) hyb zo
  have hhf := lnHalf y y (w - y) (g - y) hyb
  obtain ⟨hn1, hnn⟩ := (M.li_has hw).2 hh
  have hbd := @M.li_bd w g y (M.ySp u y (w - y)) (M.ySp v y (g - y)) hw
  rw [hnn] at hn1 hbd
  have hf0 : 1 ≤ M.yHalf y y (w - y) (g - y) ∧ M.yHalf y y (w - y) (g - y) ≤ 8388608 := by unfold M.yHalf; omega
  obtain ⟨hs0, ho0⟩ := M.ball_ok he
  obtain ⟨hm12, hos⟩ := M.oth_ok ho0
  have hs2 := M.rad_iff.1 hs0
  have hpl1 : ∀ j : Int, 0 ≤ j → j < 2 * M.yHalf y y (w - y) (g - y) → chkDisc (M.yX y y (w - y) (g - y) j) (M.yY y y (w - y) (g - y) j) s = 0 := fun j h0 h1 => by
    have := M.y_in (lx := y) (ly := y) (hx := w - y) (hy := g - y) (j := j) zo zo ⟨h0, h1⟩
    exact chkDisc_fit zo zo zo
  have hq1 : ∀ i : Nat, i < m → chkDisc (at' os (i * 3)) (at' os (i * 3 + 1)) (at' os (i * 3 + 2)) = 0 := fun i hi => by
    obtain ⟨⟨a1, a2⟩, a3⟩ := hos i hi
    exact chkDisc_fit zo a1 a2
  rcases ptl_loop nm gs cs n k T U w g y a b r p q os m W u v s hz hB zo (M.ySp u y (w - y)) (M.ySp v y (g - y)) (M.yNum y y (w - y) (g - y) (M.ySp u y (w - y)) (M.ySp v y (g - y))) (M.yHalf y y (w - y) (g - y)) hsp1 hha hnu hhf hwg ⟨hn1, hbd⟩ hf0 hq1 hpl1 with ⟨hall, R⟩ | ⟨i, hi, hlt, ⟨hA, R⟩ | ⟨hA, hBf, R⟩⟩
  · exact .inl ⟨_, zo, put_no nm gs cs n k T U w g y a b r p q os m W u v s hz hB zo (M.ySp u y (w - y)) (M.ySp v y (g - y)) (M.yNum y y (w - y) (g - y) (M.ySp u y (w - y)) (M.ySp v y (g - y))) (M.yHalf y y (w - y) (g - y)) hsp1 hha hnu hhf hwg ⟨hn1, hbd⟩ hf0 hq1 hpl1 R, .inr (.inr (Bool.and_eq_true_iff.1 (List.all_eq_true.1 hall 0 (List.mem_range.2 zo))).1)⟩
  · exact .inr ⟨hE, hP, he, rfl, i, _, hi, fun j hj => Bool.and_eq_true_iff.1 (hlt j hj), .inl rfl, hA, put_one nm gs cs n k T U w g y a b r p q os m W u v s hz hB zo (M.ySp u y (w - y)) (M.ySp v y (g - y)) (M.yNum y y (w - y) (g - y) (M.ySp u y (w - y)) (M.ySp v y (g - y))) (M.yHalf y y (w - y) (g - y)) hsp1 hha hnu hhf hwg ⟨hn1, hbd⟩ hf0 hq1 hpl1 i R⟩
  · exact .inr ⟨hE, hP, he, rfl, i, _, hi, fun j hj => Bool.and_eq_true_iff.1 (hlt j hj), .inr ⟨rfl, hA⟩, hBf, put_two nm gs cs n k T U w g y a b r p q os m W u v s hz hB zo (M.ySp u y (w - y)) (M.ySp v y (g - y)) (M.yNum y y (w - y) (g - y) (M.ySp u y (w - y)) (M.ySp v y (g - y))) (M.yHalf y y (w - y) (g - y)) hsp1 hha hnu hhf hwg ⟨hn1, hbd⟩ hf0 hq1 hpl1 i R⟩
end Go.Proofs.Ytmelbcmfahcffaa
end
section
namespace Go.Proofs.Ytmelbcmfahcffaa
open Go Go.RowKit Go.Proofs.Ytmelbcmfahcffaa.E2
theorem M.num_facts {lx ly hx hy u v : Int} (h1 : 0 ≤ lx ∧ lx + 1 ≤ hx ∧ hx ≤ 4194304) (h2 : 0 ≤ ly ∧ ly + 1 ≤ hy ∧ hy ≤ 4194304) (hn : M.nuE lx ly hx hy u v = 0) :
    M.plE lx ly hx hy (M.nuV lx ly hx hy u v) = 0 ∧ M.plX lx ly hx hy (M.nuV lx ly hx hy u v) = u ∧ M.plY lx ly hx hy (M.nuV lx ly hx hy u v) = v := by
  have e : M.nuV lx ly hx hy u v = M.yNum lx ly hx hy u v := by unfold M.nuV; rw [if_pos hn]
  have hh : M.yHas lx ly hx hy u v = true := by
    unfold M.nuE at hn
    split at hn
    · contradiction
    · cases hc : M.yHas lx ly hx hy u v with
      | true => rfl
      | false => rw [hc] at hn; simp at hn
  rw [e]
  have kh : M.yHalf lx ly hx hy = hx - lx + (hy - ly) := rfl
  unfold M.yHas M.ySp at hh
  simp only [Bool.and_eq_true, Bool.or_eq_true, decide_eq_true_eq] at hh
  obtain ⟨hs, hu, hv⟩ := hh
  have bu : lx ≤ u ∧ u ≤ hx := by omega
  have bv : ly ≤ v ∧ v ≤ hy := by omega
  have key : (0 ≤ M.yNum lx ly hx hy u v ∧ M.yNum lx ly hx hy u v < 2 * M.yHalf lx ly hx hy) ∧ M.yX lx ly hx hy (M.yNum lx ly hx hy u v) = u ∧ M.yY lx ly hx hy (M.yNum lx ly hx hy u v) = v := by
    unfold M.yNum
    by_cases c1 : v = ly ∧ u < hx
    · rw [if_pos c1]
      unfold M.yX M.yY
      rw [if_pos (by omega), if_pos (by omega)]
      omega
    rw [if_neg c1]
    by_cases c2 : u = hx ∧ v < hy
    · rw [if_pos c2]
      unfold M.yX M.yY
      rw [if_neg (by omega), if_pos (by omega), if_neg (by omega), if_pos (by omega)]
      omega
    rw [if_neg c2]
    by_cases c3 : v = hy ∧ lx < u
    · rw [if_pos c3]
      unfold M.yX M.yY
      rw [if_neg (by omega), if_neg (by omega), if_pos (by omega), if_neg (by omega), if_neg (by omega), if_pos (by omega)]
      omega
    rw [if_neg c3]
    unfold M.yX M.yY
    rw [if_neg (by omega), if_neg (by omega), if_neg (by omega), if_neg (by omega), if_neg (by omega), if_neg (by omega)]
    omega
  obtain ⟨k1, k2, k3⟩ := key
  have hp : M.plE lx ly hx hy (M.yNum lx ly hx hy u v) = 0 := by unfold M.plE; rw [if_neg (by omega), if_neg (by omega)]
  refine ⟨hp, ?_, ?_⟩
  · unfold M.plX; rw [if_pos hp]; exact k2
  · unfold M.plY; rw [if_pos hp]; exact k3
end Go.Proofs.Ytmelbcmfahcffaa
end
section
namespace Go.Proofs.Ytmelbcmfahcffaa
open Go Go.RowKit Go.Proofs.Ytmelbcmfahcffaa.E2
variable (nm : ByteArray) (gs cs : List Int) (n k : Nat) (T U : Nat) (w g y a b r p q : Int)
theorem tm_small {x d : Int} (h : 0 ≤ x ∧ x < d) : x.tmod d = x := Int.tmod_eq_of_lt h.1 h.2
theorem tm_less {x d : Int} (h : d ≤ x ∧ x < d + d) (hd : 0 < d) : x.tmod d = x - d := tmod_less h.1 h.2 hd
theorem M.away {h N z i : Int} (hN : 0 ≤ N ∧ N < 2 * h) (hi : 0 ≤ i ∧ i ≤ h) (hh : 1 ≤ h) (hz : z = (N + i).tmod (2 * h) ∨ z = (N - i + 2 * h).tmod (2 * h)) : (0 ≤ z ∧ z < 2 * h) ∧ (0 ≤ ((z - N + 2 * h).tmod (2 * h)) ∧ ((z - N + 2 * h).tmod (2 * h)) < 2 * h) ∧ (0 ≤ ((N - z + 2 * h).tmod (2 * h)) ∧ ((N - z + 2 * h).tmod (2 * h)) < 2 * h) ∧ (if ((N - z + 2 * h).tmod (2 * h)) < ((z - N + 2 * h).tmod (2 * h)) then ((N - z + 2 * h).tmod (2 * h)) else ((z - N + 2 * h).tmod (2 * h))) = i := by
  have q1 : 0 ≤ z ∧ z < 2 * h := by rcases hz with rfl | rfl <;> exact tmod_in zo zo
  refine ⟨q1, tmod_in zo zo, tmod_in zo zo, ?_⟩
  rcases hz with e | e
  · by_cases c : N + i < 2 * h
    · rw [tm_small ⟨by omega, c⟩] at e
      by_cases c2 : i = 0
      · rw [show N - z + 2 * h = 2 * h by omega, show z - N + 2 * h = 2 * h by omega, tm_less ⟨by omega, by omega⟩ (by omega)]; omega
      · rw [show N - z + 2 * h = 2 * h - i by omega, show z - N + 2 * h = i + 2 * h by omega, tm_small ⟨by omega, by omega⟩, tm_less ⟨by omega, by omega⟩ (by omega)]
        split <;> omega
    · rw [tm_less ⟨by omega, by omega⟩ (by omega)] at e
      rw [show N - z + 2 * h = 4 * h - i by omega, show z - N + 2 * h = i by omega, tm_small (x := i) ⟨by omega, by omega⟩, tm_less ⟨by omega, by omega⟩ (by omega)]
      split <;> omega
  · by_cases c : N < i
    · rw [tm_small ⟨by omega, by omega⟩] at e
      rw [show N - z + 2 * h = i by omega, show z - N + 2 * h = 4 * h - i by omega, tm_small (x := i) ⟨by omega, by omega⟩, tm_less ⟨by omega, by omega⟩ (by omega)]
      split <;> omega
    · rw [tm_less ⟨by omega, by omega⟩ (by omega)] at e
      by_cases c2 : i = 0
      · rw [show N - z + 2 * h = 2 * h by omega, show z - N + 2 * h = 2 * h by omega, tm_less ⟨by omega, by omega⟩ (by omega)]; omega
      · rw [show N - z + 2 * h = i + 2 * h by omega, show z - N + 2 * h = 2 * h - i by omega, tm_small (x := 2 * h - i) ⟨by omega, by omega⟩, tm_less ⟨by omega, by omega⟩ (by omega)]
        split <;> omega
theorem lawFree (os : List Int) (m : Nat) (W : Nat) (u v s : Int) (pa : List Int) (pl : Nat) (Z : Nat) (hzg : n * 5 ≤ gs.length) (hzc : k * 3 ≤ cs.length) (h9 : nm.size ≤ 9223372036854775807) (hz : m * 3 ≤ os.length) (hpa : pa.length = pl) (hpr : ∀ j : Nat, j < pl → 0 ≤ at' pa j ∧ at' pa j ≤ 65535) : Meets cfx 0 10 (zq176 nm w g y n a b r p q k u v s m pl) (zq188 gs T cs U os W pa Z) (.raw (.bool true)) (zq188 gs T cs U os W pa Z) := by
  by_cases h1 : nm.size ≤ 100
  case neg => exact fre_great1 nm gs cs n k T U w g y a b r p q os m W u v s pa pl Z zo h9
  by_cases h2 : n ≤ 20
  case neg => exact fre_great2 nm gs cs n k T U w g y a b r p q os m W u v s pa pl Z h1 zo
  by_cases h3 : k ≤ 300
  case neg => exact fre_great3 nm gs cs n k T U w g y a b r p q os m W u v s pa pl Z h1 h2 zo
  by_cases h4 : m ≤ 12
  case neg => exact fre_great4 nm gs cs n k T U w g y a b r p q os m W u v s pa pl Z h1 h2 h3 zo
  have hR := rnCheck nm gs cs n k T U w g y a b r p q hzg hzc h2 h3 h1
  have hK := lnCheck nm gs cs n k T U w g y a b r p q hzg hzc h2 h3 h1
  by_cases hE : M.lawnE nm gs cs n k w g y a b r p q = 0
  case neg => exact fre_chk nm gs cs n k T U w g y a b r p q os m W u v s pa pl Z h1 h2 h3 h4 _ hE hR
  have hR0 := hR
  rw [hE] at hR0
  rcases lnPutV nm gs cs n k T U w g y a b r p q os m W u v s hzg hzc h2 h3 h1 hz zo with ⟨pe, hpe, hpu, _⟩ | ⟨_, hP, hB, hh, i, z, hi, hlt, hzz, hfr, hpu⟩
  · obtain ⟨sx, sz, ib, se, s1, _⟩ := spotBoth nm gs cs n k T U w g y a b r p q u v hzg hzc h2 h3 h1
    exact fre_bad nm gs cs n k T U w g y a b r p q os m W u v s pa pl Z h1 h2 h3 h4 hR0 pe sx sz se ib hpe hpu s1
  rw [hE] at hK
  have hw := M.lawn_sides hE
  have hP2 := M.pt_iff.1 hP
  have hwg : (65536 ≤ w ∧ w ≤ 4194304) ∧ (65536 ≤ g ∧ g ≤ 4194304) ∧ (0 ≤ y ∧ y ≤ 1048576) := ⟨hw.1, hw.2.1, hw.2.2.1⟩
  have q1 : 0 ≤ y ∧ y + 1 ≤ w - y ∧ w - y ≤ 4194304 := by omega
  have q2 : 0 ≤ y ∧ y + 1 ≤ g - y ∧ g - y ≤ 4194304 := by omega
  obtain ⟨hs0, ho0⟩ := M.ball_ok hB
  obtain ⟨hm12, hos⟩ := M.oth_ok ho0
  have hs2 := M.rad_iff.1 hs0
  have hin := M.sp_in hw (u := u) (v := v)
  have hf0 : 1 ≤ (M.yHalf y y (w - y) (g - y)) ∧ (M.yHalf y y (w - y) (g - y)) ≤ 8388608 := by unfold M.yHalf; omega
  obtain ⟨hn1, hnn⟩ := (M.li_has hw).2 hh
  rw [hnn] at hn1
  have hSp : M.ptE (M.ySp u y (w - y)) (M.ySp v y (g - y)) = 0 := M.pt_iff.2 zo
  have hnuE : M.nuE y y (w - y) (g - y) (M.ySp u y (w - y)) (M.ySp v y (g - y)) = 0 := by unfold M.nuE; rw [if_neg (by simp [hSp]), hh]; rfl
  obtain ⟨nf1, nf2, nf3⟩ := M.num_facts q1 q2 hnuE
  have env : M.nuV y y (w - y) (g - y) (M.ySp u y (w - y)) (M.ySp v y (g - y)) = (M.yNum y y (w - y) (g - y) (M.ySp u y (w - y)) (M.ySp v y (g - y))) := by unfold M.nuV; rw [if_pos hnuE]
  rw [env] at nf1 nf2 nf3
  have hNb : 0 ≤ (M.yNum y y (w - y) (g - y) (M.ySp u y (w - y)) (M.ySp v y (g - y))) ∧ (M.yNum y y (w - y) (g - y) (M.ySp u y (w - y)) (M.ySp v y (g - y))) < 2 * (M.yHalf y y (w - y) (g - y)) := by
    refine ⟨hn1, ?_⟩
    unfold M.plE at nf1
    by_cases c : 2 * (M.yHalf y y (w - y) (g - y)) ≤ (M.yNum y y (w - y) (g - y) (M.ySp u y (w - y)) (M.ySp v y (g - y)))
    · rw [if_neg (by omega), if_pos c] at nf1; omega
    · omega
  have ex1 : M.yX y y (w - y) (g - y) (M.yNum y y (w - y) (g - y) (M.ySp u y (w - y)) (M.ySp v y (g - y))) = (M.ySp u y (w - y)) := by unfold M.plX at nf2; rw [if_pos nf1] at nf2; exact nf2
  have ey1 : M.yY y y (w - y) (g - y) (M.yNum y y (w - y) (g - y) (M.ySp u y (w - y)) (M.ySp v y (g - y))) = (M.ySp v y (g - y)) := by unfold M.plY at nf3; rw [if_pos nf1] at nf3; exact nf3
  obtain ⟨hzr, hd1, hd2, haw⟩ := M.away (z := z) hNb ⟨by omega, hi⟩ hf0.1 (hzz.imp id (fun q => q.1))
  have hpz : M.plE y y (w - y) (g - y) z = 0 := by unfold M.plE; rw [if_neg (by omega), if_neg (by omega)]
  obtain ⟨af1, af2, af3, _, _, _⟩ := M.at_facts q1 q2 hpz
  have exz : M.plX y y (w - y) (g - y) z = (M.yX y y (w - y) (g - y) z) := by unfold M.plX; rw [if_pos hpz]
  have eyz : M.plY y y (w - y) (g - y) z = (M.yY y y (w - y) (g - y) z) := by unfold M.plY; rw [if_pos hpz]
  rw [exz, eyz] at af1 af2 af3
  have enz : M.yNum y y (w - y) (g - y) (M.yX y y (w - y) (g - y) z) (M.yY y y (w - y) (g - y) z) = z := by unfold M.nuV at af2; rw [if_pos af1] at af2; exact af2
  have hhz : M.yHas y y (w - y) (g - y) (M.yX y y (w - y) (g - y) z) (M.yY y y (w - y) (g - y) z) = true := by
    unfold M.nuE at af1
    rw [if_neg (by simp [af3])] at af1
    cases hc : M.yHas y y (w - y) (g - y) (M.yX y y (w - y) (g - y) z) (M.yY y y (w - y) (g - y) z) with
    | true => rfl
    | false => rw [hc] at af1; simp at af1
  have hna := lnNumber_ok nm gs cs n k T U w g y a b r p q 0 hK (M.yX y y (w - y) (g - y) z) (M.yY y y (w - y) (g - y) z) hwg rfl af3 hhz (M.pt_iff.1 af3)
  have hns := lnNumber_ok nm gs cs n k T U w g y a b r p q 0 hK (M.ySp u y (w - y)) (M.ySp v y (g - y)) hwg rfl hSp hh (M.pt_iff.1 hSp)
  have hsp := lnSpotP_ok nm gs cs n k T U w g y a b r p q 0 hK u v hwg rfl hP hP2
  have hpc := rnPlc nm gs cs n k T U w g y a b r p q hw
  have hpl : ∀ j : Int, 0 ≤ j → j < 2 * (M.yHalf y y (w - y) (g - y)) → M.okP (M.yX y y (w - y) (g - y) j) (M.yY y y (w - y) (g - y) j) := fun j k0 k1 => by
    have := M.y_in (lx := y) (ly := y) (hx := w - y) (hy := g - y) (j := j) zo zo ⟨k0, k1⟩
    unfold M.okP
    omega
  have hq2 : ∀ i : Nat, i < m → M.okP (at' os (i * 3)) (at' os (i * 3 + 1)) ∧ 1 ≤ at' os (i * 3 + 2) ∧ at' os (i * 3 + 2) ≤ 16384 := fun i hi => by
    obtain ⟨⟨a1, a2⟩, a3⟩ := hos i hi
    refine ⟨?_, a3⟩
    unfold M.okP
    omega
  have hpn : Meets cfx 0 39 [lwA nm w g y n a b r p q k, .raw (.agg #[.int .i64 u, .int .i64 v]), .raw (.int .i64 s), .slo 2 0] [bkG gs T, bkI cs U, some (.cells (ints []) 0 .ro)] (.raw (.tuple #[.agg #[.int .i64 (M.ySp u y (w - y)), .int .i64 (M.ySp v y (g - y))], .int .i64 0])) [bkG gs T, bkI cs U, some (.cells (ints []) 0 .ro)] := by
    rcases lnPutV nm gs cs n k T U w g y a b r p q [] 0 0 u v s hzg hzc h2 h3 h1 (by simp) zo with ⟨_, _, _, hbad⟩ | ⟨_, _, _, _, i2, z2, _, hlt2, hz2, _, hp2⟩
    · exfalso
      rcases hbad with k1 | k1 | k1
      · apply k1
        rw [hE, M.ball1_eq hP]
        unfold M.ballE
        rw [if_pos hs0]
        rfl
      · rw [hh] at k1; cases k1
      · revert k1; unfold M.tchA; simp
    · have e0 : i2 = 0 := by
        rcases Nat.eq_zero_or_pos i2 with c | c
        · exact c
        · exfalso
          have := (hlt2 0 c).1
          revert this; unfold M.tchA; simp
      subst e0
      have ez : z2 = (M.yNum y y (w - y) (g - y) (M.ySp u y (w - y)) (M.ySp v y (g - y))) := by
        rcases hz2 with c | c
        · rw [c, show (M.yNum y y (w - y) (g - y) (M.ySp u y (w - y)) (M.ySp v y (g - y))) + ((0 : Nat) : Int) = (M.yNum y y (w - y) (g - y) (M.ySp u y (w - y)) (M.ySp v y (g - y))) by omega]; exact tm_small hNb
        · exfalso
          have := c.2
          revert this; unfold M.tchA; simp
      rw [ez, ex1, ey1] at hp2
      exact hp2
  have hd1z : 0 ≤ ((M.yNum y y (w - y) (g - y) (M.yX y y (w - y) (g - y) z) (M.yY y y (w - y) (g - y) z) - (M.yNum y y (w - y) (g - y) (M.ySp u y (w - y)) (M.ySp v y (g - y))) + 2 * (M.yHalf y y (w - y) (g - y))).tmod (2 * (M.yHalf y y (w - y) (g - y)))) ∧ ((M.yNum y y (w - y) (g - y) (M.yX y y (w - y) (g - y) z) (M.yY y y (w - y) (g - y) z) - (M.yNum y y (w - y) (g - y) (M.ySp u y (w - y)) (M.ySp v y (g - y))) + 2 * (M.yHalf y y (w - y) (g - y))).tmod (2 * (M.yHalf y y (w - y) (g - y)))) < 2 * (M.yHalf y y (w - y) (g - y)) := by rw [enz]; exact hd1
  have hd2z : 0 ≤ (((M.yNum y y (w - y) (g - y) (M.ySp u y (w - y)) (M.ySp v y (g - y))) - M.yNum y y (w - y) (g - y) (M.yX y y (w - y) (g - y) z) (M.yY y y (w - y) (g - y) z) + 2 * (M.yHalf y y (w - y) (g - y))).tmod (2 * (M.yHalf y y (w - y) (g - y)))) ∧ (((M.yNum y y (w - y) (g - y) (M.ySp u y (w - y)) (M.ySp v y (g - y))) - M.yNum y y (w - y) (g - y) (M.yX y y (w - y) (g - y) z) (M.yY y y (w - y) (g - y) z) + 2 * (M.yHalf y y (w - y) (g - y))).tmod (2 * (M.yHalf y y (w - y) (g - y)))) < 2 * (M.yHalf y y (w - y) (g - y)) := by rw [enz]; exact hd2
  have hnv : 0 ≤ M.yNum y y (w - y) (g - y) (M.yX y y (w - y) (g - y) z) (M.yY y y (w - y) (g - y) z) ∧ M.yNum y y (w - y) (g - y) (M.yX y y (w - y) (g - y) z) (M.yY y y (w - y) (g - y) z) ≤ 16777216 := by rw [enz]; omega
  have hka := hpl z hzr.1 hzr.2
  obtain ⟨kk, hL⟩ := frp_loop nm gs cs n k T U w g y a b r p q os m W u v s pa pl Z h1 h2 h3 h4 hR0 (M.ySp u y (w - y)) (M.ySp v y (g - y)) (M.yX y y (w - y) (g - y) z) (M.yY y y (w - y) (g - y) z) (M.yHalf y y (w - y) (g - y)) _ hpu hpn hsp hns hna hpc hz zo hka hfr ⟨hn1, by omega⟩ hnv hf0 hd1z hd2z hw hq2 hs2 hpl hpa hpr i (M.yNum y y (w - y) (g - y) (M.ySp u y (w - y)) (M.ySp v y (g - y))) hi hNb hlt
  have haw2 : (i : Int) = (if (((M.yNum y y (w - y) (g - y) (M.ySp u y (w - y)) (M.ySp v y (g - y))) - M.yNum y y (w - y) (g - y) (M.yX y y (w - y) (g - y) z) (M.yY y y (w - y) (g - y) z) + 2 * (M.yHalf y y (w - y) (g - y))).tmod (2 * (M.yHalf y y (w - y) (g - y)))) < ((M.yNum y y (w - y) (g - y) (M.yX y y (w - y) (g - y) z) (M.yY y y (w - y) (g - y) z) - (M.yNum y y (w - y) (g - y) (M.ySp u y (w - y)) (M.ySp v y (g - y))) + 2 * (M.yHalf y y (w - y) (g - y))).tmod (2 * (M.yHalf y y (w - y) (g - y)))) then (((M.yNum y y (w - y) (g - y) (M.ySp u y (w - y)) (M.ySp v y (g - y))) - M.yNum y y (w - y) (g - y) (M.yX y y (w - y) (g - y) z) (M.yY y y (w - y) (g - y) z) + 2 * (M.yHalf y y (w - y) (g - y))).tmod (2 * (M.yHalf y y (w - y) (g - y)))) else ((M.yNum y y (w - y) (g - y) (M.yX y y (w - y) (g - y) z) (M.yY y y (w - y) (g - y) z) - (M.yNum y y (w - y) (g - y) (M.ySp u y (w - y)) (M.ySp v y (g - y))) + 2 * (M.yHalf y y (w - y) (g - y))).tmod (2 * (M.yHalf y y (w - y) (g - y))))) := by rw [enz]; exact haw.symm
  rw [haw2] at hL
  rcases hL with hL | hL | hL
  · exact fre_4 nm gs cs n k T U w g y a b r p q os m W u v s pa pl Z h1 h2 h3 h4 hR0 (M.ySp u y (w - y)) (M.ySp v y (g - y)) (M.yX y y (w - y) (g - y) z) (M.yY y y (w - y) (g - y) z) (M.yHalf y y (w - y) (g - y)) _ hpu hpn hsp hns hna hpc hz zo hka hfr ⟨hn1, by omega⟩ hnv hf0 hd1z hd2z hw hq2 hs2 hpl kk hL
  · exact fre_5 nm gs cs n k T U w g y a b r p q os m W u v s pa pl Z h1 h2 h3 h4 hR0 (M.ySp u y (w - y)) (M.ySp v y (g - y)) (M.yX y y (w - y) (g - y) z) (M.yY y y (w - y) (g - y) z) (M.yHalf y y (w - y) (g - y)) _ hpu hpn hsp hns hna hpc hz zo hka hfr ⟨hn1, by omega⟩ hnv hf0 hd1z hd2z hw hq2 hs2 hpl kk hL
  · exact fre_6 nm gs cs n k T U w g y a b r p q os m W u v s pa pl Z h1 h2 h3 h4 hR0 (M.ySp u y (w - y)) (M.ySp v y (g - y)) (M.yX y y (w - y) (g - y) z) (M.yY y y (w - y) (g - y) z) (M.yHalf y y (w - y) (g - y)) _ hpu hpn hsp hns hna hpc hz zo hka hfr ⟨hn1, by omega⟩ hnv hf0 hd1z hd2z hw hq2 hs2 hpl kk hL
end Go.Proofs.Ytmelbcmfahcffaa
end
section
namespace Go.Proofs.Ytmelbcmfahcffaa.K
open Go Go.Deep Go.ChangeShapes Go.WideShapes Go.ChangeAt Go.RowKit
section
variable {H : Type} {enc : TypeId × Value → H} {P : Program} {w : World} {base : Nat} {spare : Nat → Bool} {held : Bool} {r : Reach} {b0 : Nat}
theorem open_parts {t : TypeId} {fs : Array Field} {v : Value} {dd : DataW H} {p : List MemPlace} (ts : List TypeId) (hts : P.cellTypes P.depth t = some ts) (hs : P.underlying t = some (.struct fs)) (hv : Value.okWide P w r b0 t v) (h : DataW.Trod enc P w base spare held t v dd p) :
    ∃ cs : List Value, v = .agg ⟨cs⟩ ∧ cs.length = P.cellsOf t ∧ (∀ (i : Nat) (f : Field), fs[i]? = some f → ∃ fuel x, DataW.trod enc P w base spare held fuel f.type ((cs.drop f.offset).take (P.cellsOf f.type)) = some x) ∧
      ∀ (i : Nat) (u : Value), cs[i]? = some u → ∃ y, ts[i % ts.length]? = some y ∧ Cell.okWide P w r b0 y u := by
  unfold Value.okWide at hv
  rw [hs] at hv
  obtain ⟨cs, rfl, hsz, ts', h1, _, h3⟩ := hv
  rw [hts, Option.some.injEq] at h1
  subst h1
  refine ⟨cs.toList, rfl, by simpa using hsz, fun i f hi => ?_, fun i u hu => h3 i u (by simpa using hu)⟩
  obtain ⟨fuel, hf⟩ := h
  obtain ⟨xs, n, _, _, hl, hxl, hg⟩ := DataW.trod_struct hs hf
  have hlt : i < xs.length := by
    have := (Array.getElem?_eq_some_iff.1 hi).1
    omega
  exact ⟨n, xs[i], (hg i f hi).trans (List.getElem?_eq_getElem hlt)⟩
theorem cell_slice {t e : TypeId} {u : Value} {fuel : Nat} {x : DataW H × List MemPlace} (hs : P.underlying t = some (.slice e)) (hc : Cell.okWide P w r b0 t u) (h : DataW.trod enc P w base spare held fuel t [u] = some x) : Value.okWide P w r b0 t u ∧ DataW.Trod enc P w base spare held t u x.1 x.2 := by
  have hv : Value.okWide P w r b0 t u := by
    unfold Value.okWide
    rw [hs]
    exact hc
  obtain ⟨a, l, c, rfl⟩ := okWide_slice hs hv
  exact ⟨hv, fuel, h⟩
theorem cell_int {t : TypeId} {k : IntKind} {fuel : Nat} {u : Value} {x : DataW H × List MemPlace} (hk : flatK P 9 t = some [some k]) (h : DataW.trod enc P w base spare held fuel t [u] = some x) : ∃ n, u = .int k n ∧ (Lit.int k n).wf = true := by
  obtain ⟨n, rest, h1, h2, _⟩ := flat_cells 9 fuel t _ _ _ hk h
  cases h1
  exact ⟨n, rfl, h2⟩
theorem list11 {α : Type} {l : List α} (h : l.length = 11) : ∃ a0 a1 a2 a3 a4 a5 a6 a7 a8 a9 a10, l = [a0, a1, a2, a3, a4, a5, a6, a7, a8, a9, a10] := by
  match l, h with
  | [a0, a1, a2, a3, a4, a5, a6, a7, a8, a9, a10], _ => exact ⟨a0, a1, a2, a3, a4, a5, a6, a7, a8, a9, a10, rfl⟩
end
end Go.Proofs.Ytmelbcmfahcffaa.K
namespace Go.Proofs.Ytmelbcmfahcffaa.E2
open Go Go.RowKit
def RowsAt (ls : List Loc) (H : Heap) (w : World) : Prop := ∀ (i : Nat) (B : Blk), H[i]? = some (some B) → ∃ cs T, B = .cells cs T .ro ∧ cs.all isRawV = true ∧ ∀ ρ, CellsOk ρ (ls.getD i (Loc.at 0)) w cs T .ro
theorem rowsAt_nil {w : World} : RowsAt [] [] w := fun i B h => by simp at h
theorem rowsAt_cons {cs : List V} {T : TypeId} {l : Loc} {ls : List Loc} {H : Heap} {w : World} (ha : cs.all isRawV = true) (h0 : ∀ ρ, CellsOk ρ l w cs T .ro) (hr : RowsAt ls H w) : RowsAt (l :: ls) (some (.cells cs T .ro) :: H) w := fun i B h => by
  match i with
  | 0 =>
    simp only [List.getElem?_cons_zero, Option.some.injEq] at h
    exact ⟨cs, T, h.symm, ha, h0⟩
  | i + 1 => exact hr i B (by simpa using h)
theorem calls_at {c : Cfg} {lim : Nat} {f : FuncId} {args : List V} {H H' : Heap} {x : Value} (hm : Meets c lim f args H (.raw x) H') (hL : c.L = 0) (hG : c.G = []) (ls : List Loc) (w : World) (hlen : ls.length = H.length)
    (hro : RowsAt ls H w) (hu : unders H.length args = true) :
    Calls c.P f (concs ⟨fun i => ls.getD i (Loc.at 0), fun _ => undef⟩ args).toArray w fun e w' => e = .returned x ∧ Below w.heap.size w w' := by
  have R : RelH c ⟨fun i => ls.getD i (Loc.at 0), fun _ => undef⟩ H w := by
    refine ⟨fun i B hB => ?_, fun i j hi hj he => ?_, fun i B hB => ?_, fun p hp => (by rw [hG] at hp; cases hp), by omega, fun i hi => by omega⟩
    · obtain ⟨cs, T, rfl, _, hk⟩ := hro i B hB
      exact hk _
    · obtain ⟨B, a1, a2, a3⟩ := hi
      obtain ⟨cs, T, rfl, _⟩ := hro i B a1
      cases a2
    · obtain ⟨cs, T, rfl, ha, _⟩ := hro i B hB
      exact unders_raws _ _ ha
  refine (hm _ w R hu).mono fun e w' ⟨ρ', _, he, _, F, _⟩ => ?_
  refine ⟨he, F.os, F.tape, F.output, F.size, fun k hk => F.blk k hk fun i _ h2 => ?_⟩
  obtain ⟨B, a1, a2, a3⟩ := h2
  obtain ⟨cs, T, rfl, _⟩ := hro i B a1
  cases a2
end Go.Proofs.Ytmelbcmfahcffaa.E2
end
section
namespace Go.Proofs.Ytmelbcmfahcffaa.K
open Go Go.Deep Go.ChangeShapes Go.WideShapes Go.ChangeAt Go.RowKit
section
variable {H : Type} {enc : TypeId × Value → H} {w : World} {base : Nat} {spare : Nat → Bool} {held : Bool} {r : Reach} {b0 : Nat}
set_option maxHeartbeats 1000000 in
theorem open_lawn {v : Value} {dd : DataW H} {p : List MemPlace} (hv : Value.okWide Try.prog w r b0 29 v) (h : DataW.Trod enc Try.prog w base spare held 29 v dd p) :
    ∃ (nm : ByteArray) (z0 z1 z2 z3 z4 z5 z6 z7 : Int) (l0 l1 : E2.Loc) (n k : Nat) (gs cs : List Int) (T U : TypeId), v = .agg ⟨[.string nm, .int .i64 z0, .int .i64 z1, .int .i64 z2, E2.slcOf l0 n, .int .i64 z3, .int .i64 z4, .int .i64 z5, .int .i64 z6, .int .i64 z7, E2.slcOf l1 k]⟩ ∧
      nm.size ≤ maxLen ∧ ((Lit.int .i64 z0).wf = true ∧ (Lit.int .i64 z1).wf = true ∧ (Lit.int .i64 z2).wf = true ∧ (Lit.int .i64 z3).wf = true ∧ (Lit.int .i64 z4).wf = true ∧ (Lit.int .i64 z5).wf = true ∧ (Lit.int .i64 z6).wf = true ∧ (Lit.int .i64 z7).wf = true) ∧
      gs.length = n * 5 ∧ cs.length = k * 3 ∧ (∀ ρ, E2.CellsOk ρ l0 w (E2.mix [false, false, false, false, true] gs) T .ro) ∧ ∀ ρ, E2.CellsOk ρ l1 w (E2.ints cs) U .ro := by
  obtain ⟨cs, rfl, hlen, hf, hc⟩ := open_parts (P := Try.prog) [9, 2, 2, 2, 22, 2, 2, 2, 3, 3, 27] zk Try.underlying29 hv h
  obtain ⟨a0, a1, a2, a3, a4, a5, a6, a7, a8, a9, a10, rfl⟩ := list11 (hlen.trans zk)
  obtain ⟨_, _, f0⟩ := hf 0 _ rfl
  obtain ⟨_, _, f1⟩ := hf 1 _ rfl
  obtain ⟨_, _, f2⟩ := hf 2 _ rfl
  obtain ⟨_, _, f3⟩ := hf 3 _ rfl
  obtain ⟨_, _, f4⟩ := hf 4 _ rfl
  obtain ⟨_, _, f5⟩ := hf 5 _ rfl
  obtain ⟨_, _, f6⟩ := hf 6 _ rfl
  obtain ⟨_, _, f7⟩ := hf 7 _ rfl
  obtain ⟨_, _, f8⟩ := hf 8 _ rfl
  obtain ⟨y4, e4, c4⟩ := hc 4 a4 rfl
  obtain ⟨y10, e10, c10⟩ := hc 10 a10 rfl
  cases e4
  cases e10
  obtain ⟨nm, e0, _, hnm⟩ := DataW.trod_string (P := Try.prog) Try.underlying9 f0
  obtain ⟨z0, rfl, w0⟩ := cell_int (P := Try.prog) (t := 2) (k := .i64) zk f1
  obtain ⟨z1, rfl, w1⟩ := cell_int (P := Try.prog) (t := 2) (k := .i64) zk f2
  obtain ⟨z2, rfl, w2⟩ := cell_int (P := Try.prog) (t := 2) (k := .i64) zk f3
  obtain ⟨v4, t4⟩ := cell_slice (P := Try.prog) Try.underlying22 c4 f4
  obtain ⟨z3, _, d3, w3, z4, _, d4, w4, z5, _, d5, w5, _⟩ := flat_cells (P := Try.prog) 9 _ 26 [some .i64, some .i64, some .i64] _ _ zk f5
  obtain ⟨z6, rfl, w6⟩ := cell_int (P := Try.prog) (t := 3) (k := .i64) zk f6
  obtain ⟨z7, rfl, w7⟩ := cell_int (P := Try.prog) (t := 3) (k := .i64) zk f7
  obtain ⟨v10, t10⟩ := cell_slice (P := Try.prog) Try.underlying27 c10 f8
  cases e0
  cases d3
  cases d4
  cases d5
  obtain ⟨l0, n, gs, T, rfl, hg, _, h0⟩ := open_mix (P := Try.prog) [false, false, false, false, true] Try.underlying22 zk zk (by decide) v4 t4
  obtain ⟨l1, k, cs, U, rfl, hk, _, h1⟩ := open_row (P := Try.prog) Try.underlying27 (show K.flatK Try.prog 9 39 = some (List.replicate 3 (some .i64)) by kernel_rfl) (show Try.prog.cellsOf 39 = 3 by kernel_rfl) (by decide) v10 t10
  exact ⟨nm, z0, z1, z2, z3, z4, z5, z6, z7, l0, l1, n, k, gs, cs, T, U, rfl, hnm, ⟨w0, w1, w2, w3, w4, w5, w6, w7⟩, hg, hk, h0, h1⟩
end
end Go.Proofs.Ytmelbcmfahcffaa.K
end
section
namespace Go.Proofs.Ytmelbcmfahcffaa.K
open Go Go.Deep Go.ChangeShapes Go.WideShapes Go.ChangeAt Go.RowKit
theorem rng_u16 {zs : List Int} {m : Nat} (hl : zs.length = m * [some IntKind.u16].length) (h : ∀ k, k < zs.length → ∃ u, cellOkW ([some IntKind.u16].getD (k % [some IntKind.u16].length) none) u ∧ E2.at' zs k = numB u) : zs.length = m ∧ ∀ j : Nat, j < m → 0 ≤ E2.at' zs j ∧ E2.at' zs j ≤ 65535 := by
  have hm : zs.length = m := by rw [hl]; exact Nat.mul_one m
  refine ⟨hm, fun j hj => ?_⟩
  obtain ⟨u, hu, e⟩ := h j zo
  have e0 : j % [some IntKind.u16].length = 0 := Nat.mod_one j
  rw [e0] at hu
  obtain ⟨z, rfl, hz⟩ := hu
  rw [e]
  exact bounds_u16 hz
end Go.Proofs.Ytmelbcmfahcffaa.K
end
section
namespace Go.Proofs.Ytmelbcmfahcffaa
open Go Go.ChangeShapes Go.WideShapes Go.ChangeAt Go.RowKit
theorem own : ownKnob Try.prog.godebug = none := by kernel_rfl
theorem laidOut : laidOutB Try.prog = true := by kernel_rfl
noncomputable def laidWorld (os : Os) : World := World.holding Try.prog os ⟨#[], #[], []⟩
end Go.Proofs.Ytmelbcmfahcffaa
end
section
namespace Go.Proofs.Ytmelbcmfahcffaa
open Go Go.ChangeShapes Go.WideShapes Go.ChangeAt Go.RowKit
namespace lawnFree
theorem readable : ∀ t ∈ Try.f10.params.toList, Try.prog.readableRec t = true ∧ t < Try.prog.types.size := fun t ht => by
  have h := List.all_eq_true.1 (show (Try.f10.params.toList.all fun t => Try.prog.readableRec t && decide (t < Try.prog.types.size)) = true by kernel_rfl) t ht
  rw [Bool.and_eq_true, decide_eq_true_eq] at h
  exact h
theorem contract (H : Type) (enc : TypeId × Value → H) (W : World) (base : Nat) (args : Array Value) (ds gs : List (DataW H)) (before : List MemPlace)
    (hval : ∀ (j : Nat) t v, Try.f10.params[j]? = some t → args[j]? = some v → Value.okWide Try.prog W .any base t v)
    (hW : DataW.Whole enc Try.prog Try.f10.params.toList Rows.lawnFreeSpec.vars false W args.toList ds gs before) :
    Calls Try.prog 10 args W fun e W' => ∃ v, e = .returned v ∧ Rows.lawnFreeSpec.post enc Try.prog Try.f10 false true false false W args v W' := by
  have hW' := hW
  obtain ⟨p, q, hA0, hV, rfl, hfz, hnd⟩ := hW
  have hA : DataW.TrodAll enc Try.prog W 0 (fun _ => true) true Try.f10.params.toList args.toList ds p := hA0
  rw [Try.params10] at hA hval
  obtain ⟨v0, vs0, d0, ds0, p0, q0, hargs, rfl, rfl, h0, r0⟩ := trodAll_cons hA
  obtain ⟨v1, vs1, d1, ds1, p1, q1, rfl, rfl, rfl, h1, r1⟩ := trodAll_cons r0
  obtain ⟨v2, vs2, d2, ds2, p2, q2, rfl, rfl, rfl, h2, r2⟩ := trodAll_cons r1
  obtain ⟨v3, vs3, d3, ds3, p3, q3, rfl, rfl, rfl, h3, r3⟩ := trodAll_cons r2
  obtain ⟨v4, vs4, d4, ds4, p4, q4, rfl, rfl, rfl, h4, r4⟩ := trodAll_cons r3
  obtain ⟨rfl, rfl, rfl⟩ := trodAll_nil r4
  obtain rfl : args = #[v0, v1, v2, v3, v4] := by cases args; simp_all
  obtain ⟨rfl, rfl⟩ := trodVars_none hV
  obtain ⟨l_nm, l_z0, l_z1, l_z2, l_z3, l_z4, l_z5, l_z6, l_z7, l_la, l_lb, l_n, l_k, l_gs, l_cs, l_T, l_U, rfl, l_hnm, l_hz, l_hg, l_hk, l_ha, l_hb⟩ := K.open_lawn (hval 0 29 v0 rfl rfl) h0
  obtain ⟨c1, rfl, g1⟩ := K.flat_open Try.underlying24 (show K.flatK Try.prog 9 24 = some [some .i64, some .i64] by kernel_rfl) (hval 1 24 v1 rfl rfl) h1
  obtain ⟨p0, zp0, rfl, xp0, p1, zp1, rfl, xp1, rfl⟩ := g1
  have yp0 := bounds_i64 xp0
  have yp1 := bounds_i64 xp1
  obtain ⟨r, rfl, _, _, xr⟩ := open_int Try.underlying2 (hval 2 2 v2 rfl rfl) h2
  have yr := bounds_i64 xr
  obtain ⟨others_l, others_m, others_z, others_T, rfl, others_len, others_rng, others_ok⟩ := K.open_row Try.underlying32 (show K.flatK Try.prog 9 26 = some (List.replicate 3 (some .i64)) by kernel_rfl) (show Try.prog.cellsOf 26 = 3 by kernel_rfl) (by decide) (hval 3 32 v3 rfl rfl) h3
  obtain ⟨parts_l, parts_m, parts_z, parts_T, rfl, parts_len, parts_rng, parts_ok⟩ := K.open_mixk (P := Try.prog) [some .u16] Try.underlying76 (by kernel_rfl) (by kernel_rfl) (by decide) (hval 4 76 v4 rfl rfl) h4
  clear hA0
  have hR := E2.calls_at (c := cfx) (args := [.agg [.raw (.string l_nm), .raw (.int .i64 l_z0), .raw (.int .i64 l_z1), .raw (.int .i64 l_z2), .slo 0 l_n, .raw (.int .i64 l_z3), .raw (.int .i64 l_z4), .raw (.int .i64 l_z5), .raw (.int .i64 l_z6), .raw (.int .i64 l_z7), .slo 1 l_k], .raw (.agg #[.int .i64 p0, .int .i64 p1]), .raw (.int .i64 r), .slo 2 others_m, .slo 3 parts_m]) (x := .bool true) (lawFree l_nm l_gs l_cs l_n l_k l_T l_U l_z0 l_z1 l_z2 l_z3 l_z4 l_z5 l_z6 l_z7 others_z others_m others_T p0 p1 r parts_z parts_m parts_T (Nat.le_of_eq l_hg.symm) (Nat.le_of_eq l_hk.symm) (by have := l_hnm; unfold maxLen at this; omega) (by omega) (K.rng_u16 parts_len parts_rng).1 (K.rng_u16 parts_len parts_rng).2) rfl rfl [l_la, l_lb, others_l, parts_l] W rfl (E2.rowsAt_cons (E2.mix_all _ _) l_ha (E2.rowsAt_cons (E2.ints_all _) l_hb (E2.rowsAt_cons (E2.ints_all _) others_ok (E2.rowsAt_cons (E2.mixk_all _ _) parts_ok (E2.rowsAt_nil))))) rfl
  refine Calls.mono hR fun e W' hw => ?_
  exact ⟨_, hw.1, K.law_post laidOut readable (by kernel_rfl) Try.underlying4 rfl hW' rfl hw.2⟩
theorem laid_met (os : Os) : laidMet Try.prog Rows.lawnFreeRow.laid ((laidWorld os).forCall (fun _ _ => 0) ⟨#[], #[.agg #[.string ⟨#[]⟩, .int .i64 0, .int .i64 0, .int .i64 0, .slice none 0 0, .int .i64 0, .int .i64 0, .int .i64 0, .int .i64 0, .int .i64 0, .slice none 0 0], .agg #[.int .i64 0, .int .i64 0], .int .i64 0, .slice none 0 0, .slice none 0 0], []⟩).memory :=
  laidMet_of_run' 8 (by kernel_rfl) (by kernel_rfl)
theorem reads (os : Os) {H : Type} (enc : TypeId × Value → H) : ∃ places, DataW.whole enc Try.prog ((laidWorld os).forCall (fun _ _ => 0) ⟨#[], #[.agg #[.string ⟨#[]⟩, .int .i64 0, .int .i64 0, .int .i64 0, .slice none 0 0, .int .i64 0, .int .i64 0, .int .i64 0, .int .i64 0, .int .i64 0, .slice none 0 0], .agg #[.int .i64 0, .int .i64 0], .int .i64 0, .slice none 0 0, .slice none 0 0], []⟩).memory Try.f10.params.toList Rows.lawnFreeSpec.vars false (#[.agg #[.string ⟨#[]⟩, .int .i64 0, .int .i64 0, .int .i64 0, .slice none 0 0, .int .i64 0, .int .i64 0, .int .i64 0, .int .i64 0, .int .i64 0, .slice none 0 0], .agg #[.int .i64 0, .int .i64 0], .int .i64 0, .slice none 0 0, .slice none 0 0] : Array Value).toList 8 = some ([.agg [.lit (.string []), .lit (.int .i64 0), .lit (.int .i64 0), .lit (.int .i64 0), .nil, .agg [.agg [.lit (.int .i64 0), .lit (.int .i64 0)], .lit (.int .i64 0)], .lit (.int .i64 0), .lit (.int .i64 0), .nil], .agg [.lit (.int .i64 0), .lit (.int .i64 0)], .lit (.int .i64 0), .nil, .nil], [], places) :=
  ⟨[], by kernel_rfl⟩
theorem lifted (os : Os) (started : os.Started) (H : Type) (enc : TypeId × Value → H) (F : Stop.Interp) :
    ReturnsInHanded {} Try.checked os 10 .any ((OpenSpec.ofChange Rows.lawnFreeSpec).preRow enc Try.prog Try.f10 Rows.lawnFreeRow.domain false Rows.lawnFreeRow.laid) (((OpenSpec.ofChange Rows.lawnFreeSpec).at F).post enc Try.prog Try.f10 false true false false) := by
  obtain ⟨places, hx⟩ := reads os enc
  refine returnsInHanded_of_row (C := Try.checked) (s := OpenSpec.ofChange Rows.lawnFreeSpec) own started (by kernel_rfl) Try.func10
    (witness_row_at (enc := enc) (C := Try.checked) false (laidWorld os) #[.agg #[.string ⟨#[]⟩, .int .i64 0, .int .i64 0, .int .i64 0, .slice none 0 0, .int .i64 0, .int .i64 0, .int .i64 0, .int .i64 0, .int .i64 0, .slice none 0 0], .agg #[.int .i64 0, .int .i64 0], .int .i64 0, .slice none 0 0, .slice none 0 0] rfl (by kernel_rfl) (by kernel_rfl) (by kernel_rfl)
      (OpenSpec.preRow_of_cond 8 hx (by kernel_rfl) (fun k hk => by cases hk) (by kernel_rfl) (laid_met os))) ?_
  intro W base args ds gs before hval hW _ _ _ hL _ _
  exact contract H enc W base args ds gs before hval hW
theorem said : Rows.LawnFreeSaid :=
  OpenClaim.holds_of_cond 10 Try.f10 rfl rfl rfl rfl rfl rfl rfl ⟨rfl, rfl, rfl, rfl, rfl⟩ rfl rfl rfl rfl rfl (by kernel_rfl) Try.func10 (by kernel_rfl)
    (of_decide_eq_true (by kernel_rfl)) (by unfold Func.isWrapper; first | (rw [if_pos (by decide +kernel)]; kernel_rfl) | (rw [if_neg (by decide +kernel)]; exact ⟨rfl, rfl⟩))
    (fun os started H enc _ F => by rw [OpenClaim.pre_eq_preRow]; exact lifted os started H enc F)
end lawnFree
end Go.Proofs.Ytmelbcmfahcffaa
end
