/-
  For all lawns, points, radii, other balls, parts of the way and greater balls: roquetlaw02.LawnWays returns true, and leaves its arguments as they were. No condition.
-/
import Derived.Test.YtmelbcmfahcffaaLHe
set_option linter.unusedVariables false
set_option linter.unusedSimpArgs false
set_option maxRecDepth 100000
section
namespace Go.Proofs.Ytmelbcmfahcffaa
open Go Go.RowKit Go.Proofs.Ytmelbcmfahcffaa.E2
variable (nm : ByteArray) (gs cs : List Int) (n k : Nat) (T U : Nat) (w g y a b r p q : Int)
def wybe_T1 (nm : ByteArray) (gs cs : List Int) (n k : Nat) (T U : Nat) (w g y a b r p q : Int) (os : List Int) (m : Nat) (W : Nat) (a1 a2 b1 b2 s pt mo : Int) (zs : List Int) (N : Nat) (i : Int) : List V := (zq10 nm w g y n a b r p q k a1 a2 b1 b2 s m pt mo zs N i)
def wybe_H1 (nm : ByteArray) (gs cs : List Int) (n k : Nat) (T U : Nat) (w g y a b r p q : Int) (os : List Int) (m : Nat) (W : Nat) (a1 a2 b1 b2 s pt mo : Int) (zs : List Int) (N : Nat) (i : Int) : Heap := (zq55 gs T cs U os W nm w g y n a b r p q k a1 a2 b1 b2 zs s N mo)
theorem wybe_1 (os : List Int) (m : Nat) (W : Nat) (a1 a2 b1 b2 s pt mo : Int) (h1 : nm.size ≤ 100) (h2 : n ≤ 20) (h3 : k ≤ 300) (h4 : m ≤ 12) (zs : List Int) (N : Nat) (hzl : zs.length = N * 3) (hN : N ≤ 40) (hin : ∀ x z u v d : Int, M.ptE x z = 0 → M.ptE u v = 0 → M.radE d = 0 → Meets cfx 0 28 [lwA nm w g y n a b r p q k, .raw (.agg #[.int .i64 x, .int .i64 z]), .raw (.agg #[.int .i64 u, .int .i64 v]), .raw (.int .i64 d), .slo 2 m] [bkG gs T, bkI cs U, bkI os W] (.tup [.slo 3 (M.hits (M.cutZ zs x z u v d) N).length, .raw (.int .i64 0)]) ([bkG gs T, bkI cs U, bkI os W, some (.cells (ints (M.hits (M.cutZ zs x z u v d) N)) 3 (.row 1))])) (htc : (zq100 nm w g y n a b r p q k a1 a2 s m gs T cs U os W zs N)) (hdi : (zq155 nm w g y n a b r p q k m gs T cs U os W N zs)) (hpa : M.ptE a1 a2 = 0) (hpb : M.ptE b1 b2 = 0) (hrs : M.radE s = 0) (hrw : M.radE (if s + mo < 16384 then s + mo else 16384) = 0) (hs : 1 ≤ s ∧ s ≤ 16384) (hpt : 0 ≤ pt ∧ pt ≤ 255) (hmo : 0 ≤ mo ∧ mo ≤ 255) (hg1 : ((-4194304 ≤ a1 ∧ a1 ≤ 4194304) ∧ (-4194304 ≤ a2 ∧ a2 ≤ 4194304))) (hg2 : ((-4194304 ≤ b1 ∧ b1 ≤ 4194304) ∧ (-4194304 ≤ b2 ∧ b2 ≤ 4194304))) (hpm : 0 ≤ pt.tmod 65 ∧ pt.tmod 65 ≤ 64) (hx1 : (-70368744177664 ≤ a1 * (64 - pt.tmod 65) ∧ a1 * (64 - pt.tmod 65) ≤ 70368744177664)) (hx2 : (-70368744177664 ≤ b1 * pt.tmod 65 ∧ b1 * pt.tmod 65 ≤ 70368744177664)) (hx3 : (-70368744177664 ≤ a2 * (64 - pt.tmod 65) ∧ a2 * (64 - pt.tmod 65) ≤ 70368744177664)) (hx4 : (-70368744177664 ≤ b2 * pt.tmod 65 ∧ b2 * pt.tmod 65 ≤ 70368744177664)) (hx5 : -268435456 ≤ (a1 * (64 - pt.tmod 65) + b1 * pt.tmod 65) ∧ (a1 * (64 - pt.tmod 65) + b1 * pt.tmod 65) ≤ 268435456) (hx6 : -268435456 ≤ (a2 * (64 - pt.tmod 65) + b2 * pt.tmod 65) ∧ (a2 * (64 - pt.tmod 65) + b2 * pt.tmod 65) ≤ 268435456) (hR0 : (zq40 nm gs cs n k T U w g y a b r p q os m W a1 a2 b1 b2 s pt mo zs N)) (i : Int) (hi0 : 0 ≤ i) (hi1 : i ≤ 40) (hge : ¬ i < ↑(M.hits (M.cutZ zs a1 a2 b1 b2 s) N).length)  : Runs cfx 0 13 none (loopOf cfx.P 7 1) (wyb_T nm gs cs n k T U w g y a b r p q os m W a1 a2 b1 b2 s pt mo zs N i) (wyb_H nm gs cs n k T U w g y a b r p q os m W a1 a2 b1 b2 s pt mo zs N i) (Ex.exit 2) (wybe_T1 nm gs cs n k T U w g y a b r p q os m W a1 a2 b1 b2 s pt mo zs N i) (wybe_H1 nm gs cs n k T U w g y a b r p q os m W a1 a2 b1 b2 s pt mo zs N i) := by
  refine Runs.post (t1 := (catV [lwA nm w g y n a b r p q k, pV a1 a2, pV b1 b2, iV s, .slo 2 m, V.raw (Value.int IntKind.u8 pt), V.raw (Value.int IntKind.u8 mo), .ptr 3 0, .ptr 4 0, .ptr 5 0, uV, uV, uV, uV, V.raw (.bool false), .slo 7 (M.hits (M.cutZ zs a1 a2 b1 b2 s) N).length, iV 0, .slo 8 (M.hits (M.cutZ zs b1 b2 a1 a2 s) N).length, iV 0, .slo 9 (M.hits (M.cutZ zs a1 a2 a1 a2 s) N).length, iV 0, .slo 10 (M.hits (M.cutZ zs a1 a2 a1 a2 s) N).length, iV 0, .slo 11 (M.hits (M.cutZ zs a1 a2 b1 b2 (if s + mo < 16384 then s + mo else 16384)) N).length, iV (pt.tmod 65), iV (a1 * (64 - pt.tmod 65) + b1 * pt.tmod 65), iV (a2 * (64 - pt.tmod 65) + b2 * pt.tmod 65), .slo 12 N, iV (N : Int), .any 29, .any 30, .any 31, iV i] (anyR 33 175 (catV [iV i, .slo 7 (M.hits (M.cutZ zs a1 a2 b1 b2 s) N).length, iV ((M.hits (M.cutZ zs a1 a2 b1 b2 s) N).length : Int), V.raw (.bool (decide (i < ((M.hits (M.cutZ zs a1 a2 b1 b2 s) N).length : Int))))] (anyR 212 47 []))))) (h1 := (zq55 gs T cs U os W nm w g y n a b r p q k a1 a2 b1 b2 zs s N mo)) (body_of cfx_mixed cfx_call zz (rnd := none) (fi := 0) (k := 0) (n := 40) (n0 := 13) (ans := [zF]) (cons := [(decide (i < ((M.hits (M.cutZ zs a1 a2 b1 b2 s) N).length : Int)) = false)]) zk
    ⟨(decide_eq_false zo), trivial⟩ zb zb noRnd (noRanges zk)) zt7
theorem new_one (z : Int) (T : TypeId) (ow : Own) (h1 : (Blk.cells [.raw (.int .i64 z)] T ow).wr = true := by rfl) : ∀ (k : Nat) (X : Blk), ([some (Blk.cells [.raw (.int .i64 z)] T ow)] : Heap)[k]? = some (some X) → X.wr = true ∧ ∃ cs ty own, X = .cells cs ty own ∧ cs.all isRawV = true := fun k X h => by
  match k with
  | 0 =>
    simp only [List.getElem?_cons_zero, Option.some.injEq] at h
    subst h
    exact ⟨h1, _, _, _, rfl, rfl⟩
  | k + 1 => simp at h
abbrev zq213 : List V := [V.raw (Value.string { data := #[(103 : UInt8), (114 : UInt8), (101 : UInt8), (101 : UInt8), (110 : UInt8)] }), iV 100000, iV 200000, iV 5000, .slo 1 2, iV 50000, iV 100000, iV 1200, iV 2, iV 1, .slo 2 2]
abbrev zq215 : List V := [iV 50000, iV 40000, iV 6000, iV 500, V.raw (.bool false), iV 30000, iV 100000, iV 6000, iV 500, V.raw (.bool true)]
abbrev zq37 : Heap := [some (.cells (zq213) 29 .rw), some (.cells (zq215) 71 (.row 5)), some (.cells [iV 100, iV 0, iV 0, iV 200, iV 5, iV (-5)] 39 (.row 3)), some (.cells (zq213) 29 .rw), some (.cells [iV 0] 3 (.row 1)), some (.cells [iV 5000, iV 70000, iV 2946] 26 (.row 3))]
abbrev zq43 : Heap := [some (.cells (zq213) 29 .rw), some (.cells (zq215) 71 (.row 5)), some (.cells [iV 100, iV 0, iV 0, iV 200, iV 5, iV (-5)] 39 (.row 3)), some (.cells (zq213) 29 .rw), some (.cells [iV 0] 3 (.row 1))]
abbrev zq142 : List V := (zq213)
abbrev zq174 : List V := (zq215)
theorem lnWorks   : Meets cfx 0 13 [] [] (V.raw (.bool true)) [] := by
  refine Meets.post (mev (ans := [Ans.go, Ans.go, Ans.reth (V.tup [.slo 4 1, iV 0]) (zq43), Ans.reth (V.raw (.tuple { toList := [.int .i64 3, .int .i64 0] })) (zq43), Ans.reth (V.raw (.tuple { toList := [.agg { toList := [.int .i64 5000, .int .i64 64108] }, .int .i64 0] })) (zq37), zT, zT, zT, zT, zT, zT, zT, zT]) (v := V.raw (.bool true)) (h' := [some (.cells (zq142) 29 .rw), some (.cells (zq174) 71 (.row 5)), some (.cells [iV 100, iV 0, iV 0, iV 200, iV 5, iV (-5)] 39 (.row 3)), some (.cells (zq142) 29 .rw), some (.cells [iV 0] 3 (.row 1)), some (.cells [iV 5000, iV 70000, iV 2946] 26 (.row 3)), bkP 5000 64108]) (cons := [(2 ≤ 9223372036854775807), (2 ≤ 9223372036854775807), (Meets cfx 0 28 [V.agg (zq142), pV 49900 30000, pV 49900 50000, iV 2946, V.raw (Value.slice none 0 0)] [some (.cells (zq142) 29 .rw), some (.cells (zq174) 71 (.row 5)), some (.cells [iV 100, iV 0, iV 0, iV 200, iV 5, iV (-5)] 39 (.row 3)), some (.cells (zq142) 29 .rw)] (V.tup [.slo 4 1, iV 0]) (zq43)), (Meets cfx 0 37 [V.agg (zq142), iV 0, V.raw (.bool true), pV 50000 42446, iV 2946] (zq43) (V.raw (.tuple { toList := [.int .i64 3, .int .i64 0] })) (zq43)), (1 ≤ 9223372036854775807), (Meets cfx 0 39 [V.agg (zq142), pV 1000 70000, iV 2946, .slo 5 1] (zq37) (V.raw (.tuple { toList := [.agg { toList := [.int .i64 5000, .int .i64 64108] }, .int .i64 0] })) (zq37)), (inR IntKind.i64 0), (inR IntKind.i64 0), zY, zY, zY, ((0 : Int) ≤ (0 : Int) ∧ (0 : Int) < (1 : Int)), zY, zY, zY, zY, zY]) zk
    ⟨zds, zds, (by exact below_ro (lim := 0) (N := [some (.cells [.raw (.int .i64 0)] 3 (.row 1))]) rfl rfl (fun k => if k = 0 then 1 else if k = 1 then 2 else 0) (fun k => k == 2) (ex_InWay _ (Nat.le_of_ble_eq_true zk) zk) ⟨⟨_, _, rfl, rfl, .inl ⟨rfl, _, rfl⟩⟩, ⟨_, _, rfl, rfl, .inl ⟨rfl, _, rfl⟩⟩, ⟨_, _, rfl, rfl, .inr ⟨rfl, rfl⟩⟩, trivial⟩ (fun k hk => by have hk2 : 3 ≤ k := hk; simp; omega) rfl rfl rfl (new_one _ _ _) zz), (by exact below_ro (lim := 0) (N := []) rfl rfl (fun k => if k = 0 then 1 else 2) (fun _ => false) (ex_Stand _ (Nat.le_of_ble_eq_true zk) zk) ⟨⟨_, _, rfl, rfl, .inl ⟨rfl, _, rfl⟩⟩, ⟨_, _, rfl, rfl, .inl ⟨rfl, _, rfl⟩⟩, trivial⟩ (fun _ _ => rfl) rfl rfl rfl (fun k X h => by simp at h) zz), zds, (by exact below_ro (lim := 0) (N := []) rfl rfl (fun k => if k = 0 then 1 else if k = 1 then 2 else 5) (fun _ => false) (ex_Put _ (Nat.le_of_ble_eq_true zk) zk) ⟨⟨_, _, rfl, rfl, .inl ⟨rfl, _, rfl⟩⟩, ⟨_, _, rfl, rfl, .inl ⟨rfl, _, rfl⟩⟩, ⟨_, _, rfl, rfl, .inl ⟨rfl, _, rfl⟩⟩, trivial⟩ (fun _ _ => rfl) rfl rfl rfl (fun k X h => by simp at h) zz), inR_i64 zo zo, inR_i64 zo zo, rfl, rfl, rfl, zo, rfl, rfl, rfl, rfl, rfl, trivial⟩) zk (fun RT RH => reshape2 (lim := 0) 0 cfx_G rfl [] zk zk (by exact (ents_nil)) RT RH)
abbrev zq77 (gs : List Int) (T : Nat) (cs : List Int) (U : Nat) (os : List Int) (W : Nat) (nm : ByteArray) (w : Int) (g : Int) (y : Int) (n : Nat) (a : Int) (b : Int) (r : Int) (p : Int) (q : Int) (k : Nat) (a1 : Int) (a2 : Int) (b1 : Int) (b2 : Int) : Prop := Meets cfx 0 13 [] [bkG gs T, bkI cs U, bkI os W, bkW nm w g y n a b r p q k, bkP a1 a2, bkP b1 b2, bkW nm w g y n a b r p q k] (V.raw (.bool true)) [bkG gs T, bkI cs U, bkI os W, bkW nm w g y n a b r p q k, bkP a1 a2, bkP b1 b2, bkW nm w g y n a b r p q k]
abbrev zq148 (nm : ByteArray) (w : Int) (g : Int) (y : Int) (n : Nat) (a : Int) (b : Int) (r : Int) (p : Int) (q : Int) (k : Nat) (a1 : Int) (a2 : Int) (b1 : Int) (b2 : Int) (s : Int) (m : Nat) (pt : Int) (mo : Int) : List V := [lwA nm w g y n a b r p q k, .raw (.agg #[.int .i64 a1, .int .i64 a2]), .raw (.agg #[.int .i64 b1, .int .i64 b2]), .raw (.int .i64 s), .slo 2 m, .raw (.int .u8 pt), .raw (.int .u8 mo)]
theorem wys_great1 (os : List Int) (m : Nat) (W : Nat) (a1 a2 b1 b2 s pt mo : Int) (h1 : 100 < nm.size) (h9 : nm.size ≤ 9223372036854775807)  : Meets cfx 0 7 (zq148 nm w g y n a b r p q k a1 a2 b1 b2 s m pt mo) [bkG gs T, bkI cs U, bkI os W] (V.raw (.bool true)) [bkG gs T, bkI cs U, bkI os W] := by
  refine Meets.post (mev (ans := [Ans.go, Ans.go, zT, zT, zT, zT, zT, zT, zT, Ans.reth (V.raw (.bool true)) (zq141 gs T cs U os W nm w g y n a b r p q k a1 a2 b1 b2)]) (v := V.raw (.bool true)) (h' := (zq141 gs T cs U os W nm w g y n a b r p q k a1 a2 b1 b2)) (cons := [(decide (100 < (nm.size : Int)) = true), zY, zY, zY, zY, zY, zY, ((zq77 gs T cs U os W nm w g y n a b r p q k a1 a2 b1 b2))]) zk
    ⟨zdo, rfl, rfl, rfl, rfl, rfl, rfl, (by exact below_ro (lim := 0) (N := []) rfl rfl (fun k => k) (fun _ => false) lnWorks trivial (fun _ _ => rfl) rfl rfl rfl (fun k X h => by simp at h) zz), trivial⟩) zk zt2
theorem wys_great2 (os : List Int) (m : Nat) (W : Nat) (a1 a2 b1 b2 s pt mo : Int) (h1 : nm.size ≤ 100) (h2 : 20 < n)  : Meets cfx 0 7 (zq148 nm w g y n a b r p q k a1 a2 b1 b2 s m pt mo) [bkG gs T, bkI cs U, bkI os W] (V.raw (.bool true)) [bkG gs T, bkI cs U, bkI os W] := by
  refine Meets.post (mev (ans := [Ans.go, Ans.go, zF, zF, zT, zT, zT, zT, zT, Ans.reth (V.raw (.bool true)) (zq141 gs T cs U os W nm w g y n a b r p q k a1 a2 b1 b2)]) (v := V.raw (.bool true)) (h' := (zq141 gs T cs U os W nm w g y n a b r p q k a1 a2 b1 b2)) (cons := [(decide (100 < (nm.size : Int)) = false), zN, (decide (20 < (n : Int)) = true), zY, zY, zY, zY, ((zq77 gs T cs U os W nm w g y n a b r p q k a1 a2 b1 b2))]) zk
    ⟨zdo, rfl, zdo, rfl, rfl, rfl, rfl, (by exact below_ro (lim := 0) (N := []) rfl rfl (fun k => k) (fun _ => false) lnWorks trivial (fun _ _ => rfl) rfl rfl rfl (fun k X h => by simp at h) zz), trivial⟩) zk zt2
theorem wys_great3 (os : List Int) (m : Nat) (W : Nat) (a1 a2 b1 b2 s pt mo : Int) (h1 : nm.size ≤ 100) (h2 : n ≤ 20) (h3 : 300 < k)  : Meets cfx 0 7 (zq148 nm w g y n a b r p q k a1 a2 b1 b2 s m pt mo) [bkG gs T, bkI cs U, bkI os W] (V.raw (.bool true)) [bkG gs T, bkI cs U, bkI os W] := by
  refine Meets.post (mev (ans := [Ans.go, Ans.go, zF, zF, zF, zF, zT, zT, zT, Ans.reth (V.raw (.bool true)) (zq141 gs T cs U os W nm w g y n a b r p q k a1 a2 b1 b2)]) (v := V.raw (.bool true)) (h' := (zq141 gs T cs U os W nm w g y n a b r p q k a1 a2 b1 b2)) (cons := [(decide (100 < (nm.size : Int)) = false), zN, (decide (20 < (n : Int)) = false), zN, (decide (300 < (k : Int)) = true), zY, zY, ((zq77 gs T cs U os W nm w g y n a b r p q k a1 a2 b1 b2))]) zk
    ⟨zdo, rfl, zdo, rfl, zdo, rfl, rfl, (by exact below_ro (lim := 0) (N := []) rfl rfl (fun k => k) (fun _ => false) lnWorks trivial (fun _ _ => rfl) rfl rfl rfl (fun k X h => by simp at h) zz), trivial⟩) zk zt2
theorem wys_great4 (os : List Int) (m : Nat) (W : Nat) (a1 a2 b1 b2 s pt mo : Int) (h1 : nm.size ≤ 100) (h2 : n ≤ 20) (h3 : k ≤ 300) (h4 : 12 < m)  : Meets cfx 0 7 (zq148 nm w g y n a b r p q k a1 a2 b1 b2 s m pt mo) [bkG gs T, bkI cs U, bkI os W] (V.raw (.bool true)) [bkG gs T, bkI cs U, bkI os W] := by
  refine Meets.post (mev (ans := [Ans.go, Ans.go, zF, zF, zF, zF, zF, zF, zT, Ans.reth (V.raw (.bool true)) (zq141 gs T cs U os W nm w g y n a b r p q k a1 a2 b1 b2)]) (v := V.raw (.bool true)) (h' := (zq141 gs T cs U os W nm w g y n a b r p q k a1 a2 b1 b2)) (cons := [(decide (100 < (nm.size : Int)) = false), zN, (decide (20 < (n : Int)) = false), zN, (decide (300 < (k : Int)) = false), zN, (decide (12 < (m : Int)) = true), ((zq77 gs T cs U os W nm w g y n a b r p q k a1 a2 b1 b2))]) zk
    ⟨zdo, rfl, zdo, rfl, zdo, rfl, zdo, (by exact below_ro (lim := 0) (N := []) rfl rfl (fun k => k) (fun _ => false) lnWorks trivial (fun _ _ => rfl) rfl rfl rfl (fun k X h => by simp at h) zz), trivial⟩) zk zt2
theorem wys_bad (os : List Int) (m : Nat) (W : Nat) (a1 a2 b1 b2 s pt mo : Int) (h1 : nm.size ≤ 100) (h2 : n ≤ 20) (h3 : k ≤ 300) (h4 : m ≤ 12) (we : Int) (hwe : ¬ we = 0) (hwy : Meets cfx 0 28 (zq160 nm w g y n a b r p q k a1 a2 b1 b2 s m) [bkG gs T, bkI cs U, bkI os W] (.raw (.tuple #[.slice none 0 0, .int .i64 we])) [bkG gs T, bkI cs U, bkI os W])  : Meets cfx 0 7 (zq148 nm w g y n a b r p q k a1 a2 b1 b2 s m pt mo) [bkG gs T, bkI cs U, bkI os W] (V.raw (.bool true)) [bkG gs T, bkI cs U, bkI os W] := by
  refine Meets.post (mev (ans := [Ans.go, Ans.go, zF, zF, zF, zF, zF, zF, zF, Ans.reth (V.raw (.tuple { toList := [Value.slice none 0 0, .int .i64 we] })) (zq141 gs T cs U os W nm w g y n a b r p q k a1 a2 b1 b2), zT, zT, Ans.reth (V.raw (.bool true)) (zq141 gs T cs U os W nm w g y n a b r p q k a1 a2 b1 b2), zT]) (v := V.raw (.bool true)) (h' := (zq141 gs T cs U os W nm w g y n a b r p q k a1 a2 b1 b2)) (cons := [(decide (100 < (nm.size : Int)) = false), zN, (decide (20 < (n : Int)) = false), zN, (decide (300 < (k : Int)) = false), zN, (decide (12 < (m : Int)) = false), (Meets cfx 0 28 [lwA nm w g y n a b r p q k, pV a1 a2, pV b1 b2, iV s, .slo 2 m] (zq141 gs T cs U os W nm w g y n a b r p q k a1 a2 b1 b2) (V.raw (.tuple { toList := [Value.slice none 0 0, .int .i64 we] })) (zq141 gs T cs U os W nm w g y n a b r p q k a1 a2 b1 b2)), ((!decide (we = 0)) = true), zY, ((zq77 gs T cs U os W nm w g y n a b r p q k a1 a2 b1 b2)), zY]) zk
    ⟨zdo, rfl, zdo, rfl, zdo, rfl, zdo, (by exact below_ro (lim := 0) (N := []) rfl rfl (fun k => if k = 0 then 0 else if k = 1 then 1 else 2) (fun _ => false) hwy ⟨⟨_, _, rfl, mix_all _ _, .inl ⟨rfl, _, rfl⟩⟩, ⟨_, _, rfl, ints_all _, .inl ⟨rfl, _, rfl⟩⟩, ⟨_, _, rfl, ints_all _, .inl ⟨rfl, _, rfl⟩⟩, trivial⟩ (fun _ _ => rfl) rfl rfl rfl (fun k X h => by simp at h) zz), zdf, rfl, (by exact below_ro (lim := 0) (N := []) rfl rfl (fun k => k) (fun _ => false) lnWorks trivial (fun _ _ => rfl) rfl rfl rfl (fun k X h => by simp at h) zz), rfl, trivial⟩) zk zt2
abbrev zq2 (nm : ByteArray) (w : Int) (g : Int) (y : Int) (n : Nat) (a : Int) (b : Int) (r : Int) (p : Int) (q : Int) (k : Nat) (a1 : Int) (a2 : Int) (b1 : Int) (b2 : Int) (s : Int) (m : Nat) (pt : Int) (mo : Int) (zs : List Int) (N : Nat) : List V := (catV [lwA nm w g y n a b r p q k, pV a1 a2, pV b1 b2, iV s, .slo 2 m, V.raw (Value.int IntKind.u8 pt), V.raw (Value.int IntKind.u8 mo), .ptr 3 0, .ptr 4 0, .ptr 5 0, uV, uV, uV, uV, V.raw (.bool false), .slo 7 (M.hits (M.cutZ zs a1 a2 b1 b2 s) N).length, iV 0, .slo 8 (M.hits (M.cutZ zs b1 b2 a1 a2 s) N).length, iV 0, .slo 9 (M.hits (M.cutZ zs a1 a2 a1 a2 s) N).length, iV 0, .slo 10 (M.hits (M.cutZ zs a1 a2 a1 a2 s) N).length, iV 0, .slo 11 (M.hits (M.cutZ zs a1 a2 b1 b2 (if s + mo < 16384 then s + mo else 16384)) N).length, iV (pt.tmod 65), iV (a1 * (64 - pt.tmod 65) + b1 * pt.tmod 65), iV (a2 * (64 - pt.tmod 65) + b2 * pt.tmod 65), .slo 12 N, iV 0, uV, uV, uV, uV, lwA nm w g y n a b r p q k, V.raw (.bool (decide (300 < (k : Int)))), V.lit false, .slo 2 m, iV (m : Int), V.raw (.bool (decide (12 < (m : Int)))), V.raw (.bool (decide (12 < (m : Int)))), uV, V.tup [.slo 7 (M.hits (M.cutZ zs a1 a2 b1 b2 s) N).length, iV 0], lwA nm w g y n a b r p q k, pV a1 a2, pV b1 b2, iV s, .slo 2 m, V.tup [.slo 7 (M.hits (M.cutZ zs a1 a2 b1 b2 s) N).length, iV 0], .slo 7 (M.hits (M.cutZ zs a1 a2 b1 b2 s) N).length, iV 0, iV 0, V.raw (.bool false)] (repU 6 (catV [V.tup [.slo 8 (M.hits (M.cutZ zs b1 b2 a1 a2 s) N).length, iV 0], lwA nm w g y n a b r p q k, pV b1 b2, pV a1 a2, iV s, .slo 2 m, V.tup [.slo 8 (M.hits (M.cutZ zs b1 b2 a1 a2 s) N).length, iV 0], .slo 8 (M.hits (M.cutZ zs b1 b2 a1 a2 s) N).length, iV 0, V.tup [.slo 9 (M.hits (M.cutZ zs a1 a2 a1 a2 s) N).length, iV 0], lwA nm w g y n a b r p q k, pV a1 a2, iV s, .slo 2 m, V.tup [.slo 9 (M.hits (M.cutZ zs a1 a2 a1 a2 s) N).length, iV 0], .slo 9 (M.hits (M.cutZ zs a1 a2 a1 a2 s) N).length, iV 0, V.tup [.slo 10 (M.hits (M.cutZ zs a1 a2 a1 a2 s) N).length, iV 0], lwA nm w g y n a b r p q k, pV a1 a2, pV a1 a2, iV s, .slo 2 m, V.tup [.slo 10 (M.hits (M.cutZ zs a1 a2 a1 a2 s) N).length, iV 0], .slo 10 (M.hits (M.cutZ zs a1 a2 a1 a2 s) N).length, iV 0, iV 0, V.raw (.bool false), V.lit false, iV 0, V.raw (.bool false), V.raw (.bool false), V.lit false, iV 0, V.raw (.bool false), V.raw (.bool false), V.lit false, .slo 7 (M.hits (M.cutZ zs a1 a2 b1 b2 s) N).length, .slo 8 (M.hits (M.cutZ zs b1 b2 a1 a2 s) N).length, V.raw (.bool true), V.raw (.bool false), V.raw (.bool false), V.lit false, .slo 9 (M.hits (M.cutZ zs a1 a2 a1 a2 s) N).length, .slo 7 (M.hits (M.cutZ zs a1 a2 b1 b2 s) N).length, V.raw (.bool true), V.raw (.bool false), V.raw (.bool false), V.lit false, .slo 9 (M.hits (M.cutZ zs a1 a2 a1 a2 s) N).length, .slo 10 (M.hits (M.cutZ zs a1 a2 a1 a2 s) N).length, V.raw (.bool true), V.raw (.bool false), V.raw (.bool false), V.tup [.slo 11 (M.hits (M.cutZ zs a1 a2 b1 b2 (if s + mo < 16384 then s + mo else 16384)) N).length, iV 0], lwA nm w g y n a b r p q k, pV a1 a2, pV b1 b2, iV s, V.raw (Value.int IntKind.u8 mo), iV mo, iV (s + mo), iV (if s + mo < 16384 then s + mo else 16384), .slo 2 m, V.tup [.slo 11 (M.hits (M.cutZ zs a1 a2 b1 b2 (if s + mo < 16384 then s + mo else 16384)) N).length, iV 0], .slo 11 (M.hits (M.cutZ zs a1 a2 b1 b2 (if s + mo < 16384 then s + mo else 16384)) N).length, iV 0, iV 0, V.raw (.bool false), V.lit false, .slo 7 (M.hits (M.cutZ zs a1 a2 b1 b2 s) N).length, .slo 11 (M.hits (M.cutZ zs a1 a2 b1 b2 (if s + mo < 16384 then s + mo else 16384)) N).length, V.raw (.bool true), V.raw (.bool false), V.raw (.bool false), V.raw (Value.int IntKind.u8 pt), iV pt, iV (pt.tmod 65), .ptr 4 0, iV a1, iV (pt.tmod 65), iV (64 - pt.tmod 65), iV (a1 * (64 - pt.tmod 65)), .ptr 5 0, iV b1, iV (pt.tmod 65), iV (b1 * pt.tmod 65), iV (a1 * (64 - pt.tmod 65) + b1 * pt.tmod 65), .ptr 4 1, iV a2, iV (pt.tmod 65), iV (64 - pt.tmod 65), iV (a2 * (64 - pt.tmod 65)), .ptr 5 1, iV b2, iV (pt.tmod 65), iV (b2 * pt.tmod 65), iV (a2 * (64 - pt.tmod 65) + b2 * pt.tmod 65), lwA nm w g y n a b r p q k, .slo 2 m, .slo 12 N] (repU 100 []))))
abbrev zq7 (nm : ByteArray) (w : Int) (g : Int) (y : Int) (n : Nat) (a : Int) (b : Int) (r : Int) (p : Int) (q : Int) (k : Nat) (a1 : Int) (a2 : Int) (b1 : Int) (b2 : Int) (s : Int) (m : Nat) (pt : Int) (mo : Int) (zs : List Int) (N : Nat) : List V := (catV [lwA nm w g y n a b r p q k, pV a1 a2, pV b1 b2, iV s, .slo 2 m, V.raw (Value.int IntKind.u8 pt), V.raw (Value.int IntKind.u8 mo), .ptr 3 0, .ptr 4 0, .ptr 5 0, uV, uV, uV, uV, V.raw (.bool false), .slo 7 (M.hits (M.cutZ zs a1 a2 b1 b2 s) N).length, iV 0, .slo 8 (M.hits (M.cutZ zs b1 b2 a1 a2 s) N).length, iV 0, .slo 9 (M.hits (M.cutZ zs a1 a2 a1 a2 s) N).length, iV 0, .slo 10 (M.hits (M.cutZ zs a1 a2 a1 a2 s) N).length, iV 0, .slo 11 (M.hits (M.cutZ zs a1 a2 b1 b2 (if s + mo < 16384 then s + mo else 16384)) N).length, iV (pt.tmod 65), iV (a1 * (64 - pt.tmod 65) + b1 * pt.tmod 65), iV (a2 * (64 - pt.tmod 65) + b2 * pt.tmod 65), .slo 12 N, iV (N : Int), .any 29, .any 30, .any 31, iV ((M.hits (M.cutZ zs a1 a2 b1 b2 s) N).length : Int)] (anyR 33 226 []))
abbrev zq8 (nm : ByteArray) (w : Int) (g : Int) (y : Int) (n : Nat) (a : Int) (b : Int) (r : Int) (p : Int) (q : Int) (k : Nat) (a1 : Int) (a2 : Int) (b1 : Int) (b2 : Int) (s : Int) (m : Nat) (pt : Int) (mo : Int) (zs : List Int) (N : Nat) : List V := (catV [lwA nm w g y n a b r p q k, pV a1 a2, pV b1 b2, iV s, .slo 2 m, V.raw (Value.int IntKind.u8 pt), V.raw (Value.int IntKind.u8 mo), .ptr 3 0, .ptr 4 0, .ptr 5 0, uV, uV, uV, uV, V.raw (.bool false), .slo 7 (M.hits (M.cutZ zs a1 a2 b1 b2 s) N).length, iV 0, .slo 8 (M.hits (M.cutZ zs b1 b2 a1 a2 s) N).length, iV 0, .slo 9 (M.hits (M.cutZ zs a1 a2 a1 a2 s) N).length, iV 0, .slo 10 (M.hits (M.cutZ zs a1 a2 a1 a2 s) N).length, iV 0, .slo 11 (M.hits (M.cutZ zs a1 a2 b1 b2 (if s + mo < 16384 then s + mo else 16384)) N).length, iV (pt.tmod 65), iV (a1 * (64 - pt.tmod 65) + b1 * pt.tmod 65), iV (a2 * (64 - pt.tmod 65) + b2 * pt.tmod 65), .slo 12 N, iV (N : Int)] (anyR 29 230 []))
abbrev zq9 (nm : ByteArray) (w : Int) (g : Int) (y : Int) (n : Nat) (a : Int) (b : Int) (r : Int) (p : Int) (q : Int) (k : Nat) (a1 : Int) (a2 : Int) (b1 : Int) (b2 : Int) (s : Int) (m : Nat) (pt : Int) (mo : Int) (zs : List Int) (N : Nat) : List V := (catV [lwA nm w g y n a b r p q k, pV a1 a2, pV b1 b2, iV s, .slo 2 m, V.raw (Value.int IntKind.u8 pt), V.raw (Value.int IntKind.u8 mo), .ptr 3 0, .ptr 4 0, .ptr 5 0, uV, uV, uV, uV, V.raw (.bool false), .slo 7 (M.hits (M.cutZ zs a1 a2 b1 b2 s) N).length, iV 0, .slo 8 (M.hits (M.cutZ zs b1 b2 a1 a2 s) N).length, iV 0, .slo 9 (M.hits (M.cutZ zs a1 a2 a1 a2 s) N).length, iV 0, .slo 10 (M.hits (M.cutZ zs a1 a2 a1 a2 s) N).length, iV 0, .slo 11 (M.hits (M.cutZ zs a1 a2 b1 b2 (if s + mo < 16384 then s + mo else 16384)) N).length, iV (pt.tmod 65), iV (a1 * (64 - pt.tmod 65) + b1 * pt.tmod 65), iV (a2 * (64 - pt.tmod 65) + b2 * pt.tmod 65), .slo 12 N, iV (N : Int), .any 29, .any 30, .any 31, iV 0] (anyR 33 226 []))
abbrev zq57 (gs : List Int) (T : Nat) (cs : List Int) (U : Nat) (os : List Int) (W : Nat) (nm : ByteArray) (w : Int) (g : Int) (y : Int) (n : Nat) (a : Int) (b : Int) (r : Int) (p : Int) (q : Int) (k : Nat) (a1 : Int) (a2 : Int) (b1 : Int) (b2 : Int) (zs : List Int) (s : Int) (N : Nat) (mo : Int) : Heap := [bkG gs T, bkI cs U, bkI os W, bkW nm w g y n a b r p q k, bkP a1 a2, bkP b1 b2, bkW nm w g y n a b r p q k, some (.cells (ints (M.hits (M.cutZ zs a1 a2 b1 b2 s) N)) 3 (.row 1)), some (.cells (ints (M.hits (M.cutZ zs b1 b2 a1 a2 s) N)) 3 (.row 1)), some (.cells (ints (M.hits (M.cutZ zs a1 a2 a1 a2 s) N)) 3 (.row 1)), some (.cells (ints (M.hits (M.cutZ zs a1 a2 a1 a2 s) N)) 3 (.row 1)), some (.cells (ints (M.hits (M.cutZ zs a1 a2 b1 b2 (if s + mo < 16384 then s + mo else 16384)) N)) 3 (.row 1))]
abbrev zq72 (gs : List Int) (T : Nat) (cs : List Int) (U : Nat) (os : List Int) (W : Nat) (nm : ByteArray) (w : Int) (g : Int) (y : Int) (n : Nat) (a : Int) (b : Int) (r : Int) (p : Int) (q : Int) (k : Nat) (a1 : Int) (a2 : Int) (b1 : Int) (b2 : Int) (zs : List Int) (s : Int) (N : Nat) : Heap := [bkG gs T, bkI cs U, bkI os W, bkW nm w g y n a b r p q k, bkP a1 a2, bkP b1 b2, bkW nm w g y n a b r p q k, some (.cells (ints (M.hits (M.cutZ zs a1 a2 b1 b2 s) N)) 3 (.row 1)), some (.cells (ints (M.hits (M.cutZ zs b1 b2 a1 a2 s) N)) 3 (.row 1)), some (.cells (ints (M.hits (M.cutZ zs a1 a2 a1 a2 s) N)) 3 (.row 1)), some (.cells (ints (M.hits (M.cutZ zs a1 a2 a1 a2 s) N)) 3 (.row 1))]
abbrev zq83 (gs : List Int) (T : Nat) (cs : List Int) (U : Nat) (os : List Int) (W : Nat) (nm : ByteArray) (w : Int) (g : Int) (y : Int) (n : Nat) (a : Int) (b : Int) (r : Int) (p : Int) (q : Int) (k : Nat) (a1 : Int) (a2 : Int) (b1 : Int) (b2 : Int) (zs : List Int) (s : Int) (N : Nat) : Heap := [bkG gs T, bkI cs U, bkI os W, bkW nm w g y n a b r p q k, bkP a1 a2, bkP b1 b2, bkW nm w g y n a b r p q k, some (.cells (ints (M.hits (M.cutZ zs a1 a2 b1 b2 s) N)) 3 (.row 1)), some (.cells (ints (M.hits (M.cutZ zs b1 b2 a1 a2 s) N)) 3 (.row 1)), some (.cells (ints (M.hits (M.cutZ zs a1 a2 a1 a2 s) N)) 3 (.row 1))]
abbrev zq96 (gs : List Int) (T : Nat) (cs : List Int) (U : Nat) (os : List Int) (W : Nat) (nm : ByteArray) (w : Int) (g : Int) (y : Int) (n : Nat) (a : Int) (b : Int) (r : Int) (p : Int) (q : Int) (k : Nat) (a1 : Int) (a2 : Int) (b1 : Int) (b2 : Int) (zs : List Int) (s : Int) (N : Nat) : Heap := [bkG gs T, bkI cs U, bkI os W, bkW nm w g y n a b r p q k, bkP a1 a2, bkP b1 b2, bkW nm w g y n a b r p q k, some (.cells (ints (M.hits (M.cutZ zs a1 a2 b1 b2 s) N)) 3 (.row 1)), some (.cells (ints (M.hits (M.cutZ zs b1 b2 a1 a2 s) N)) 3 (.row 1))]
abbrev zq187 (zs : List Int) (a1 : Int) (a2 : Int) (b1 : Int) (b2 : Int) (s : Int) (mo : Int) (N : Nat) : List V := [.slo 11 (M.hits (M.cutZ zs a1 a2 b1 b2 (if s + mo < 16384 then s + mo else 16384)) N).length, iV 0]
theorem wys_ok (os : List Int) (m : Nat) (W : Nat) (a1 a2 b1 b2 s pt mo : Int) (h1 : nm.size ≤ 100) (h2 : n ≤ 20) (h3 : k ≤ 300) (h4 : m ≤ 12) (zs : List Int) (N : Nat) (hzl : zs.length = N * 3) (hN : N ≤ 40) (hin : ∀ x z u v d : Int, M.ptE x z = 0 → M.ptE u v = 0 → M.radE d = 0 → Meets cfx 0 28 [lwA nm w g y n a b r p q k, .raw (.agg #[.int .i64 x, .int .i64 z]), .raw (.agg #[.int .i64 u, .int .i64 v]), .raw (.int .i64 d), .slo 2 m] [bkG gs T, bkI cs U, bkI os W] (.tup [.slo 3 (M.hits (M.cutZ zs x z u v d) N).length, .raw (.int .i64 0)]) ([bkG gs T, bkI cs U, bkI os W, some (.cells (ints (M.hits (M.cutZ zs x z u v d) N)) 3 (.row 1))])) (htc : (zq100 nm w g y n a b r p q k a1 a2 s m gs T cs U os W zs N)) (hdi : (zq155 nm w g y n a b r p q k m gs T cs U os W N zs)) (hpa : M.ptE a1 a2 = 0) (hpb : M.ptE b1 b2 = 0) (hrs : M.radE s = 0) (hrw : M.radE (if s + mo < 16384 then s + mo else 16384) = 0) (hs : 1 ≤ s ∧ s ≤ 16384) (hpt : 0 ≤ pt ∧ pt ≤ 255) (hmo : 0 ≤ mo ∧ mo ≤ 255) (hg1 : ((-4194304 ≤ a1 ∧ a1 ≤ 4194304) ∧ (-4194304 ≤ a2 ∧ a2 ≤ 4194304))) (hg2 : ((-4194304 ≤ b1 ∧ b1 ≤ 4194304) ∧ (-4194304 ≤ b2 ∧ b2 ≤ 4194304))) (hpm : 0 ≤ pt.tmod 65 ∧ pt.tmod 65 ≤ 64) (hx1 : (-70368744177664 ≤ a1 * (64 - pt.tmod 65) ∧ a1 * (64 - pt.tmod 65) ≤ 70368744177664)) (hx2 : (-70368744177664 ≤ b1 * pt.tmod 65 ∧ b1 * pt.tmod 65 ≤ 70368744177664)) (hx3 : (-70368744177664 ≤ a2 * (64 - pt.tmod 65) ∧ a2 * (64 - pt.tmod 65) ≤ 70368744177664)) (hx4 : (-70368744177664 ≤ b2 * pt.tmod 65 ∧ b2 * pt.tmod 65 ≤ 70368744177664)) (hx5 : -268435456 ≤ (a1 * (64 - pt.tmod 65) + b1 * pt.tmod 65) ∧ (a1 * (64 - pt.tmod 65) + b1 * pt.tmod 65) ≤ 268435456) (hx6 : -268435456 ≤ (a2 * (64 - pt.tmod 65) + b2 * pt.tmod 65) ∧ (a2 * (64 - pt.tmod 65) + b2 * pt.tmod 65) ≤ 268435456) (hsm : (M.hits (M.cutZ zs a1 a2 b1 b2 s) N) = (M.hits (M.cutZ zs b1 b2 a1 a2 s) N)) (hwi1 : ∀ i : Nat, i < (M.hits (M.cutZ zs a1 a2 a1 a2 s) N).length → M.hasB (M.hits (M.cutZ zs a1 a2 b1 b2 s) N) (at' (M.hits (M.cutZ zs a1 a2 a1 a2 s) N) i) = true) (hwi2 : ∀ i : Nat, i < (M.hits (M.cutZ zs a1 a2 b1 b2 s) N).length → M.hasB (M.hits (M.cutZ zs a1 a2 b1 b2 (if s + mo < 16384 then s + mo else 16384)) N) (at' (M.hits (M.cutZ zs a1 a2 b1 b2 s) N) i) = true) (hR0 : (zq40 nm gs cs n k T U w g y a b r p q os m W a1 a2 b1 b2 s pt mo zs N)) (hR1 : Runs cfx 0 13 none (.loop (loopOf cfx.P 7 1)) (wyb_T nm gs cs n k T U w g y a b r p q os m W a1 a2 b1 b2 s pt mo zs N 0) (wyb_H nm gs cs n k T U w g y a b r p q os m W a1 a2 b1 b2 s pt mo zs N 0) (.exit 2) (wybe_T1 nm gs cs n k T U w g y a b r p q os m W a1 a2 b1 b2 s pt mo zs N ((M.hits (M.cutZ zs a1 a2 b1 b2 s) N).length : Int)) (wybe_H1 nm gs cs n k T U w g y a b r p q os m W a1 a2 b1 b2 s pt mo zs N ((M.hits (M.cutZ zs a1 a2 b1 b2 s) N).length : Int)))  : Meets cfx 0 7 (zq148 nm w g y n a b r p q k a1 a2 b1 b2 s m pt mo) [bkG gs T, bkI cs U, bkI os W] (V.raw (.bool true)) [bkG gs T, bkI cs U, bkI os W] := by
  refine Meets.post (mev (ans := [Ans.go, Ans.go, zF, zF, zF, zF, zF, zF, zF, Ans.reth (V.tup [.slo 7 (M.hits (M.cutZ zs a1 a2 b1 b2 s) N).length, iV 0]) [bkG gs T, bkI cs U, bkI os W, bkW nm w g y n a b r p q k, bkP a1 a2, bkP b1 b2, bkW nm w g y n a b r p q k, some (.cells (ints (M.hits (M.cutZ zs a1 a2 b1 b2 s) N)) 3 (.row 1))], zF, Ans.reth (V.tup [.slo 8 (M.hits (M.cutZ zs b1 b2 a1 a2 s) N).length, iV 0]) (zq96 gs T cs U os W nm w g y n a b r p q k a1 a2 b1 b2 zs s N), Ans.reth (V.tup [.slo 9 (M.hits (M.cutZ zs a1 a2 a1 a2 s) N).length, iV 0]) (zq83 gs T cs U os W nm w g y n a b r p q k a1 a2 b1 b2 zs s N), Ans.reth (V.tup [.slo 10 (M.hits (M.cutZ zs a1 a2 a1 a2 s) N).length, iV 0]) (zq72 gs T cs U os W nm w g y n a b r p q k a1 a2 b1 b2 zs s N), zF, zF, zF, zF, zF, Ans.reth (V.raw (.bool true)) (zq72 gs T cs U os W nm w g y n a b r p q k a1 a2 b1 b2 zs s N), zF, zF, Ans.reth (V.raw (.bool true)) (zq72 gs T cs U os W nm w g y n a b r p q k a1 a2 b1 b2 zs s N), zF, zF, Ans.reth (V.raw (.bool true)) (zq72 gs T cs U os W nm w g y n a b r p q k a1 a2 b1 b2 zs s N), zF, zF, Ans.reth (V.tup (zq187 zs a1 a2 b1 b2 s mo N)) (zq57 gs T cs U os W nm w g y n a b r p q k a1 a2 b1 b2 zs s N mo), zF, Ans.reth (V.raw (.bool true)) (zq57 gs T cs U os W nm w g y n a b r p q k a1 a2 b1 b2 zs s N mo), zF, zF, Ans.olds [], Ans.reth (.slo 12 N) (zq55 gs T cs U os W nm w g y n a b r p q k a1 a2 b1 b2 zs s N mo), Ans.loop (Ex.exit 0) (zq8 nm w g y n a b r p q k a1 a2 b1 b2 s m pt mo zs N) (zq55 gs T cs U os W nm w g y n a b r p q k a1 a2 b1 b2 zs s N mo), Ans.loop (Ex.exit 2) (zq7 nm w g y n a b r p q k a1 a2 b1 b2 s m pt mo zs N) (zq55 gs T cs U os W nm w g y n a b r p q k a1 a2 b1 b2 zs s N mo), Ans.reth (V.raw (.bool true)) (zq55 gs T cs U os W nm w g y n a b r p q k a1 a2 b1 b2 zs s N mo)]) (v := V.raw (.bool true)) (h' := (zq55 gs T cs U os W nm w g y n a b r p q k a1 a2 b1 b2 zs s N mo)) (cons := [(decide (100 < (nm.size : Int)) = false), zN, (decide (20 < (n : Int)) = false), zN, (decide (300 < (k : Int)) = false), zN, (decide (12 < (m : Int)) = false), (Meets cfx 0 28 [lwA nm w g y n a b r p q k, pV a1 a2, pV b1 b2, iV s, .slo 2 m] (zq141 gs T cs U os W nm w g y n a b r p q k a1 a2 b1 b2) (V.tup [.slo 7 (M.hits (M.cutZ zs a1 a2 b1 b2 s) N).length, iV 0]) [bkG gs T, bkI cs U, bkI os W, bkW nm w g y n a b r p q k, bkP a1 a2, bkP b1 b2, bkW nm w g y n a b r p q k, some (.cells (ints (M.hits (M.cutZ zs a1 a2 b1 b2 s) N)) 3 (.row 1))]), zN, (Meets cfx 0 28 [lwA nm w g y n a b r p q k, pV b1 b2, pV a1 a2, iV s, .slo 2 m] [bkG gs T, bkI cs U, bkI os W, bkW nm w g y n a b r p q k, bkP a1 a2, bkP b1 b2, bkW nm w g y n a b r p q k, some (.cells (ints (M.hits (M.cutZ zs a1 a2 b1 b2 s) N)) 3 (.row 1))] (V.tup [.slo 8 (M.hits (M.cutZ zs b1 b2 a1 a2 s) N).length, iV 0]) (zq96 gs T cs U os W nm w g y n a b r p q k a1 a2 b1 b2 zs s N)), (Meets cfx 0 30 [lwA nm w g y n a b r p q k, pV a1 a2, iV s, .slo 2 m] (zq96 gs T cs U os W nm w g y n a b r p q k a1 a2 b1 b2 zs s N) (V.tup [.slo 9 (M.hits (M.cutZ zs a1 a2 a1 a2 s) N).length, iV 0]) (zq83 gs T cs U os W nm w g y n a b r p q k a1 a2 b1 b2 zs s N)), (Meets cfx 0 28 [lwA nm w g y n a b r p q k, pV a1 a2, pV a1 a2, iV s, .slo 2 m] (zq83 gs T cs U os W nm w g y n a b r p q k a1 a2 b1 b2 zs s N) (V.tup [.slo 10 (M.hits (M.cutZ zs a1 a2 a1 a2 s) N).length, iV 0]) (zq72 gs T cs U os W nm w g y n a b r p q k a1 a2 b1 b2 zs s N)), zN, zN, zN, zN, zN, (Meets cfx 0 34 [.slo 7 (M.hits (M.cutZ zs a1 a2 b1 b2 s) N).length, .slo 8 (M.hits (M.cutZ zs b1 b2 a1 a2 s) N).length] (zq72 gs T cs U os W nm w g y n a b r p q k a1 a2 b1 b2 zs s N) (V.raw (.bool true)) (zq72 gs T cs U os W nm w g y n a b r p q k a1 a2 b1 b2 zs s N)), zN, zN, (Meets cfx 0 41 [.slo 9 (M.hits (M.cutZ zs a1 a2 a1 a2 s) N).length, .slo 7 (M.hits (M.cutZ zs a1 a2 b1 b2 s) N).length] (zq72 gs T cs U os W nm w g y n a b r p q k a1 a2 b1 b2 zs s N) (V.raw (.bool true)) (zq72 gs T cs U os W nm w g y n a b r p q k a1 a2 b1 b2 zs s N)), zN, zN, (Meets cfx 0 34 [.slo 9 (M.hits (M.cutZ zs a1 a2 a1 a2 s) N).length, .slo 10 (M.hits (M.cutZ zs a1 a2 a1 a2 s) N).length] (zq72 gs T cs U os W nm w g y n a b r p q k a1 a2 b1 b2 zs s N) (V.raw (.bool true)) (zq72 gs T cs U os W nm w g y n a b r p q k a1 a2 b1 b2 zs s N)), zN, zN, (inR IntKind.i64 mo), (inR IntKind.i64 (s + mo)), (Meets cfx 0 28 [lwA nm w g y n a b r p q k, pV a1 a2, pV b1 b2, iV (if s + mo < 16384 then s + mo else 16384), .slo 2 m] (zq72 gs T cs U os W nm w g y n a b r p q k a1 a2 b1 b2 zs s N) (V.tup (zq187 zs a1 a2 b1 b2 s mo N)) (zq57 gs T cs U os W nm w g y n a b r p q k a1 a2 b1 b2 zs s N mo)), zN, (Meets cfx 0 41 [.slo 7 (M.hits (M.cutZ zs a1 a2 b1 b2 s) N).length, .slo 11 (M.hits (M.cutZ zs a1 a2 b1 b2 (if s + mo < 16384 then s + mo else 16384)) N).length] (zq57 gs T cs U os W nm w g y n a b r p q k a1 a2 b1 b2 zs s N mo) (V.raw (.bool true)) (zq57 gs T cs U os W nm w g y n a b r p q k a1 a2 b1 b2 zs s N mo)), zN, zN, (inR IntKind.i64 pt), ((65 : Int) ≠ (0 : Int)), (inR IntKind.i64 (64 - pt.tmod 65)), (inR IntKind.i64 (a1 * (64 - pt.tmod 65))), (inR IntKind.i64 (b1 * pt.tmod 65)), (inR IntKind.i64 (a1 * (64 - pt.tmod 65) + b1 * pt.tmod 65)), (inR IntKind.i64 (64 - pt.tmod 65)), (inR IntKind.i64 (a2 * (64 - pt.tmod 65))), (inR IntKind.i64 (b2 * pt.tmod 65)), (inR IntKind.i64 (a2 * (64 - pt.tmod 65) + b2 * pt.tmod 65)), (Meets cfx 0 42 [lwA nm w g y n a b r p q k, .slo 2 m] (zq57 gs T cs U os W nm w g y n a b r p q k a1 a2 b1 b2 zs s N mo) (.slo 12 N) (zq55 gs T cs U os W nm w g y n a b r p q k a1 a2 b1 b2 zs s N mo)), (Runs cfx 0 13 none (.loop (loopOf cfx.P 7 0)) (zq2 nm w g y n a b r p q k a1 a2 b1 b2 s m pt mo zs N) (zq55 gs T cs U os W nm w g y n a b r p q k a1 a2 b1 b2 zs s N mo) (Ex.exit 0) (zq8 nm w g y n a b r p q k a1 a2 b1 b2 s m pt mo zs N) (zq55 gs T cs U os W nm w g y n a b r p q k a1 a2 b1 b2 zs s N mo)), (Runs cfx 0 13 none (.loop (loopOf cfx.P 7 1)) (zq9 nm w g y n a b r p q k a1 a2 b1 b2 s m pt mo zs N) (zq55 gs T cs U os W nm w g y n a b r p q k a1 a2 b1 b2 zs s N mo) (Ex.exit 2) (zq7 nm w g y n a b r p q k a1 a2 b1 b2 s m pt mo zs N) (zq55 gs T cs U os W nm w g y n a b r p q k a1 a2 b1 b2 zs s N mo)), (Meets cfx 0 13 [] (zq55 gs T cs U os W nm w g y n a b r p q k a1 a2 b1 b2 zs s N mo) (V.raw (.bool true)) (zq55 gs T cs U os W nm w g y n a b r p q k a1 a2 b1 b2 zs s N mo))]) zk
    ⟨zdo, rfl, zdo, rfl, zdo, rfl, zdo, (by exact below_ro (lim := 0) (N := [some (.cells (ints _) 3 (.row 1))]) rfl rfl (fun k => if k = 0 then 0 else if k = 1 then 1 else 2) (fun _ => false) (hin _ _ _ _ _ (by assumption) (by assumption) (by assumption)) ⟨⟨_, _, rfl, mix_all _ _, .inl ⟨rfl, _, rfl⟩⟩, ⟨_, _, rfl, ints_all _, .inl ⟨rfl, _, rfl⟩⟩, ⟨_, _, rfl, ints_all _, .inl ⟨rfl, _, rfl⟩⟩, trivial⟩ (fun _ _ => rfl) rfl rfl rfl (new_row _ _ _) zz), rfl, (by exact below_ro (lim := 0) (N := [some (.cells (ints _) 3 (.row 1))]) rfl rfl (fun k => if k = 0 then 0 else if k = 1 then 1 else 2) (fun _ => false) (hin _ _ _ _ _ (by assumption) (by assumption) (by assumption)) ⟨⟨_, _, rfl, mix_all _ _, .inl ⟨rfl, _, rfl⟩⟩, ⟨_, _, rfl, ints_all _, .inl ⟨rfl, _, rfl⟩⟩, ⟨_, _, rfl, ints_all _, .inl ⟨rfl, _, rfl⟩⟩, trivial⟩ (fun _ _ => rfl) rfl rfl rfl (new_row _ _ _) zz), (by exact below_ro (lim := 0) (N := [some (.cells (ints _) 3 (.row 1))]) rfl rfl (fun k => if k = 0 then 0 else if k = 1 then 1 else 2) (fun _ => false) htc ⟨⟨_, _, rfl, mix_all _ _, .inl ⟨rfl, _, rfl⟩⟩, ⟨_, _, rfl, ints_all _, .inl ⟨rfl, _, rfl⟩⟩, ⟨_, _, rfl, ints_all _, .inl ⟨rfl, _, rfl⟩⟩, trivial⟩ (fun _ _ => rfl) rfl rfl rfl (new_row _ _ _) zz), (by exact below_ro (lim := 0) (N := [some (.cells (ints _) 3 (.row 1))]) rfl rfl (fun k => if k = 0 then 0 else if k = 1 then 1 else 2) (fun _ => false) (hin _ _ _ _ _ (by assumption) (by assumption) (by assumption)) ⟨⟨_, _, rfl, mix_all _ _, .inl ⟨rfl, _, rfl⟩⟩, ⟨_, _, rfl, ints_all _, .inl ⟨rfl, _, rfl⟩⟩, ⟨_, _, rfl, ints_all _, .inl ⟨rfl, _, rfl⟩⟩, trivial⟩ (fun _ _ => rfl) rfl rfl rfl (new_row _ _ _) zz), rfl, rfl, rfl, rfl, rfl, (by exact below_ro (lim := 0) (N := []) rfl rfl (fun k => if k = 0 then 7 else 8) (fun _ => false) (lwSame _ _ (by have := M.hits_len (M.cutZ zs a1 a2 b1 b2 s) N; omega) hsm) ⟨⟨_, _, rfl, ints_all _, .inl ⟨rfl, _, rfl⟩⟩, ⟨_, _, rfl, ints_all _, .inl ⟨rfl, _, rfl⟩⟩, trivial⟩ (fun _ _ => rfl) rfl rfl rfl (fun k X h => by simp at h) zz), rfl, rfl, (by exact below_ro (lim := 0) (N := []) rfl rfl (fun k => if k = 0 then 9 else 7) (fun _ => false) (lwWithin _ _ (by have := M.hits_len (M.cutZ zs a1 a2 a1 a2 s) N; omega) (by have := M.hits_len (M.cutZ zs a1 a2 b1 b2 s) N; omega) hwi1) ⟨⟨_, _, rfl, ints_all _, .inl ⟨rfl, _, rfl⟩⟩, ⟨_, _, rfl, ints_all _, .inl ⟨rfl, _, rfl⟩⟩, trivial⟩ (fun _ _ => rfl) rfl rfl rfl (fun k X h => by simp at h) zz), rfl, rfl, (by exact below_ro (lim := 0) (N := []) rfl rfl (fun k => if k = 0 then 9 else 10) (fun _ => false) (lwSame _ _ (by have := M.hits_len (M.cutZ zs a1 a2 a1 a2 s) N; omega) rfl) ⟨⟨_, _, rfl, ints_all _, .inl ⟨rfl, _, rfl⟩⟩, ⟨_, _, rfl, ints_all _, .inl ⟨rfl, _, rfl⟩⟩, trivial⟩ (fun _ _ => rfl) rfl rfl rfl (fun k X h => by simp at h) zz), rfl, rfl, inR_i64 zo zo, inR_i64 zo zo, (by exact below_ro (lim := 0) (N := [some (.cells (ints _) 3 (.row 1))]) rfl rfl (fun k => if k = 0 then 0 else if k = 1 then 1 else 2) (fun _ => false) (hin _ _ _ _ _ (by assumption) (by assumption) (by assumption)) ⟨⟨_, _, rfl, mix_all _ _, .inl ⟨rfl, _, rfl⟩⟩, ⟨_, _, rfl, ints_all _, .inl ⟨rfl, _, rfl⟩⟩, ⟨_, _, rfl, ints_all _, .inl ⟨rfl, _, rfl⟩⟩, trivial⟩ (fun _ _ => rfl) rfl rfl rfl (new_row _ _ _) zz), rfl, (by exact below_ro (lim := 0) (N := []) rfl rfl (fun k => if k = 0 then 7 else 11) (fun _ => false) (lwWithin _ _ (by have := M.hits_len (M.cutZ zs a1 a2 b1 b2 s) N; omega) (by have := M.hits_len (M.cutZ zs a1 a2 b1 b2 (if s + mo < 16384 then s + mo else 16384)) N; omega) hwi2) ⟨⟨_, _, rfl, ints_all _, .inl ⟨rfl, _, rfl⟩⟩, ⟨_, _, rfl, ints_all _, .inl ⟨rfl, _, rfl⟩⟩, trivial⟩ (fun _ _ => rfl) rfl rfl rfl (fun k X h => by simp at h) zz), rfl, rfl, inR_i64 zo zo, zds, inR_i64 zo zo, inR_i64 zo zo, inR_i64 zo zo, inR_i64 zo zo, inR_i64 zo zo, inR_i64 zo zo, inR_i64 zo zo, inR_i64 zo zo, (by exact below_ro (lim := 0) (N := [some (.cells (ints zs) 26 (.row 3))]) rfl rfl (fun k => if k = 0 then 0 else if k = 1 then 1 else 2) (fun _ => false) hdi ⟨⟨_, _, rfl, mix_all _ _, .inl ⟨rfl, _, rfl⟩⟩, ⟨_, _, rfl, ints_all _, .inl ⟨rfl, _, rfl⟩⟩, ⟨_, _, rfl, ints_all _, .inl ⟨rfl, _, rfl⟩⟩, trivial⟩ (fun _ _ => rfl) rfl rfl rfl (new_row _ _ _) zz), (by
      refine Runs.pre (fun b e => by cases e) (fun RT RH => ?_) (hR0)
      exact reshape2 (lim := 0) 13 (t := (zq2 nm w g y n a b r p q k a1 a2 b1 b2 s m pt mo zs N)) (h := (zq55 gs T cs U os W nm w g y n a b r p q k a1 a2 b1 b2 zs s N mo)) cfx_G rfl [] zk zk zdr RT RH), (by
      refine Runs.pre (fun b e => by cases e) (fun RT RH => ?_) (hR1)
      exact reshape2 (lim := 0) 13 (t := (zq9 nm w g y n a b r p q k a1 a2 b1 b2 s m pt mo zs N)) (h := (zq55 gs T cs U os W nm w g y n a b r p q k a1 a2 b1 b2 zs s N mo)) cfx_G rfl [] zk zk zdr RT RH), (by exact below_ro (lim := 0) (N := []) rfl rfl (fun k => k) (fun _ => false) lnWorks trivial (fun _ _ => rfl) rfl rfl rfl (fun k X h => by simp at h) zz), trivial⟩) zk zt2
theorem M.nb {x : Int} (h : -8388608 ≤ x ∧ x ≤ 8388608) : 0 ≤ x * x ∧ x * x ≤ 4503599627370496 := by
  have := M.mul_bd x x 8388608 8388608 h.1 h.2 h.1 h.2
  exact ⟨M.sq_nonneg x, by omega⟩
theorem M.nb2 {x : Int} (h : -67108864 ≤ x ∧ x ≤ 67108864) : 0 ≤ x * x ∧ x * x ≤ 4503599627370496 := by
  have := M.mul_bd x x 67108864 67108864 h.1 h.2 h.1 h.2
  exact ⟨M.sq_nonneg x, by omega⟩
theorem M.cut_cases {x y u v p q n : Int} (h : M.cutB x y u v p q n = true) : (M.ahead x y u v p q ≤ 0 → M.sq x y p q < n * n) ∧ (¬ M.ahead x y u v p q ≤ 0 → M.sq x y u v ≤ M.ahead x y u v p q → M.sq u v p q < n * n) := by
  unfold M.cutB at h
  rw [decide_eq_true_iff] at h
  unfold M.liesV at h
  constructor
  · intro h1
    rw [if_pos h1, M.cmp_neg] at h
    exact h
  · intro h1 h2
    rw [if_neg h1, if_pos h2, M.cmp_neg] at h
    exact h
theorem M.grow_sq {a n z : Int} (h : a < n * n) (hn : 0 ≤ n) (hz : n ≤ z) : a < z * z := by
  have := Int.mul_le_mul hz hz hn zo
  omega
theorem lwReached {a1 a2 b1 b2 p q R s : Int} (ha : M.In a1 a2) (hb : M.In b1 b2) (hd : M.In p q ∧ 1 ≤ R ∧ R ≤ 16384) (hs : 1 ≤ s ∧ s ≤ 16384) (h : M.cutB a1 a2 b1 b2 p q (R + s) = true) : Ret cfx 44 [.raw (.agg #[.int .i64 a1, .int .i64 a2]), .raw (.agg #[.int .i64 b1, .int .i64 b2]), .raw (.agg #[.int .i64 p, .int .i64 q, .int .i64 R]), .raw (.int .i64 s)] (.raw (.bool true)) := by
  obtain ⟨hp, hR⟩ := hd
  unfold M.In at ha hb hp
  have p1 := M.pb (x := (b1 - a1)) (y := (p - a1)) zo zo
  have p2 := M.pb (x := (b2 - a2)) (y := (q - a2)) zo zo
  have p3 := M.nb (x := (b1 - a1)) zo
  have p4 := M.nb (x := (b2 - a2)) zo
  have hc := M.cut_cases h
  have eA : M.ahead a1 a2 b1 b2 p q = ((b1 - a1) * (p - a1) + (b2 - a2) * (q - a2)) := rfl
  have eN : M.sq a1 a2 b1 b2 = ((b1 - a1) * (b1 - a1) + (b2 - a2) * (b2 - a2)) := rfl
  rw [eA, eN] at hc
  have q3 := M.nb2 (x := (s + R + 2)) zo
  by_cases c1 : ((b1 - a1) * (b1 - a1) + (b2 - a2) * (b2 - a2)) ≤ ((b1 - a1) * (p - a1) + (b2 - a2) * (q - a2))
  · have hfin : (b1 - p) * (b1 - p) + (b2 - q) * (b2 - q) < (s + R + 2) * (s + R + 2) := by
      have e : M.sq b1 b2 p q = (b1 - p) * (b1 - p) + (b2 - q) * (b2 - q) := by unfold M.sq; grind
      rw [← e]
      by_cases c2 : ((b1 - a1) * (p - a1) + (b2 - a2) * (q - a2)) ≤ 0
      · have z : ((b1 - a1) * (b1 - a1) + (b2 - a2) * (b2 - a2)) = 0 := by omega
        have x0 : (b1 - a1) * (b1 - a1) = 0 := by omega
        have y0 : (b2 - a2) * (b2 - a2) = 0 := by omega
        have x1 : (b1 - a1) = 0 := by rcases Int.mul_eq_zero.1 x0 with k | k <;> exact k
        have y1 : (b2 - a2) = 0 := by rcases Int.mul_eq_zero.1 y0 with k | k <;> exact k
        have e2 : M.sq b1 b2 p q = M.sq a1 a2 p q := by rw [show b1 = a1 by omega, show b2 = a2 by omega]
        rw [e2]
        exact M.grow_sq (hc.1 c2) zo zo
      · exact M.grow_sq (hc.2 c2 c1) zo zo
    by_cases c2 : 0 < ((b1 - a1) * (p - a1) + (b2 - a2) * (q - a2))
    · exact rch_b1 a1 a2 b1 b2 p q R s ha hb hp hs hR p1 p2 p3 p4 c1 c2 (M.nb2 zo) (M.nb2 zo) q3 hfin
    · exact rch_b0 a1 a2 b1 b2 p q R s ha hb hp hs hR p1 p2 p3 p4 c1 c2 (M.nb2 zo) (M.nb2 zo) q3 hfin
  by_cases c2 : 0 < ((b1 - a1) * (p - a1) + (b2 - a2) * (q - a2))
  case neg =>
    have hfin : (a1 - p) * (a1 - p) + (a2 - q) * (a2 - q) < (s + R + 2) * (s + R + 2) := by
      have e : M.sq a1 a2 p q = (a1 - p) * (a1 - p) + (a2 - q) * (a2 - q) := by unfold M.sq; grind
      rw [← e]
      exact M.grow_sq (hc.1 zo) zo zo
    exact rch_a a1 a2 b1 b2 p q R s ha hb hp hs hR p1 p2 p3 p4 c1 c2 (M.nb2 zo) (M.nb2 zo) q3 hfin
  have hN : 0 < ((b1 - a1) * (b1 - a1) + (b2 - a2) * (b2 - a2)) := by omega
  have eL : ((b1 - a1) * (b1 - a1) + (b2 - a2) * (b2 - a2)).tdiv 32768 = ((b1 - a1) * (b1 - a1) + (b2 - a2) * (b2 - a2)) / 32768 := Int.tdiv_eq_ediv_of_nonneg zo
  have hL : 0 ≤ ((b1 - a1) * (b1 - a1) + (b2 - a2) * (b2 - a2)) / 32768 ∧ ((b1 - a1) * (b1 - a1) + (b2 - a2) * (b2 - a2)) / 32768 ≤ 70368744177664 := by omega
  have eK : (((b1 - a1) * (p - a1) + (b2 - a2) * (q - a2)).tdiv (((b1 - a1) * (b1 - a1) + (b2 - a2) * (b2 - a2)).tdiv 32768 + 1)) = ((b1 - a1) * (p - a1) + (b2 - a2) * (q - a2)) / (((b1 - a1) * (b1 - a1) + (b2 - a2) * (b2 - a2)) / 32768 + 1) := by rw [eL]; exact Int.tdiv_eq_ediv_of_nonneg (by omega)
  have hK : 0 ≤ (((b1 - a1) * (p - a1) + (b2 - a2) * (q - a2)).tdiv (((b1 - a1) * (b1 - a1) + (b2 - a2) * (b2 - a2)).tdiv 32768 + 1)) ∧ (((b1 - a1) * (p - a1) + (b2 - a2) * (q - a2)).tdiv (((b1 - a1) * (b1 - a1) + (b2 - a2) * (b2 - a2)).tdiv 32768 + 1)) ≤ 32768 := by
    rw [eK]
    refine ⟨Int.ediv_nonneg zo zo, ?_⟩
    have : ((b1 - a1) * (p - a1) + (b2 - a2) * (q - a2)) / (((b1 - a1) * (b1 - a1) + (b2 - a2) * (b2 - a2)) / 32768 + 1) < 32768 := Int.ediv_lt_of_lt_mul zo zo
    omega
  have mx : ∀ t : Int, (-8388608 ≤ t ∧ t ≤ 8388608) → (0 ≤ (if -t > t then -t else t) ∧ (if -t > t then -t else t) ≤ 8388608) ∧ (-(if -t > t then -t else t) ≤ t ∧ t ≤ (if -t > t then -t else t)) ∧ (if -t > t then -t else t) * (if -t > t then -t else t) = t * t := fun t ht => by
    refine ⟨?_, ?_, M.abs_sq t⟩ <;> split <;> omega
  obtain ⟨x1, x2, x3⟩ := mx (b1 - a1) zo
  obtain ⟨y1, y2, y3⟩ := mx (b2 - a2) zo
  have m1 := M.mul_bd (b1 - a1) (((b1 - a1) * (p - a1) + (b2 - a2) * (q - a2)).tdiv (((b1 - a1) * (b1 - a1) + (b2 - a2) * (b2 - a2)).tdiv 32768 + 1)) 8388608 32768 zo zo zo hK.2
  have m2 := M.mul_bd (b2 - a2) (((b1 - a1) * (p - a1) + (b2 - a2) * (q - a2)).tdiv (((b1 - a1) * (b1 - a1) + (b2 - a2) * (b2 - a2)).tdiv 32768 + 1)) 8388608 32768 zo zo zo hK.2
  have tb : ∀ z : Int, (-274877906944 ≤ z ∧ z ≤ 274877906944) → -8388608 ≤ z.tdiv 32768 ∧ z.tdiv 32768 ≤ 8388608 := fun z hz => by
    have h0 := Int.mul_tdiv_add_tmod z 32768
    have r1 := Int.tmod_lt_of_pos z (show 0 < 32768 by omega)
    have r2 : -32768 < z.tmod 32768 := Int.lt_tmod_of_pos z (show 0 < 32768 by omega)
    omega
  have t1 := tb ((b1 - a1) * (((b1 - a1) * (p - a1) + (b2 - a2) * (q - a2)).tdiv (((b1 - a1) * (b1 - a1) + (b2 - a2) * (b2 - a2)).tdiv 32768 + 1))) zo
  have t2 := tb ((b2 - a2) * (((b1 - a1) * (p - a1) + (b2 - a2) * (q - a2)).tdiv (((b1 - a1) * (b1 - a1) + (b2 - a2) * (b2 - a2)).tdiv 32768 + 1))) zo
  have eM : ((if -(b1 - a1) > (b1 - a1) then -(b1 - a1) else (b1 - a1)) + (if -(b2 - a2) > (b2 - a2) then -(b2 - a2) else (b2 - a2))).tdiv 16384 = ((if -(b1 - a1) > (b1 - a1) then -(b1 - a1) else (b1 - a1)) + (if -(b2 - a2) > (b2 - a2) then -(b2 - a2) else (b2 - a2))) / 16384 := Int.tdiv_eq_ediv_of_nonneg zo
  have x4 : 0 ≤ ((if -(b1 - a1) > (b1 - a1) then -(b1 - a1) else (b1 - a1)) + (if -(b2 - a2) > (b2 - a2) then -(b2 - a2) else (b2 - a2))).tdiv 16384 ∧ ((if -(b1 - a1) > (b1 - a1) then -(b1 - a1) else (b1 - a1)) + (if -(b2 - a2) > (b2 - a2) then -(b2 - a2) else (b2 - a2))).tdiv 16384 ≤ 1024 := by rw [eM]; omega
  have hfin := M.reach (x := a1) (y := a2) (u := b1) (v := b2) (p := p) (q := q) (n := R + s) (s := ((s + R + 2) + (1024 + ((if -(b1 - a1) > (b1 - a1) then -(b1 - a1) else (b1 - a1)) + (if -(b2 - a2) > (b2 - a2) then -(b2 - a2) else (b2 - a2))).tdiv 16384))) (a := (if -(b1 - a1) > (b1 - a1) then -(b1 - a1) else (b1 - a1))) (c := (if -(b2 - a2) > (b2 - a2) then -(b2 - a2) else (b2 - a2))) (by omega) (by rw [eA, eN]; omega) x2 y2 x1.1 y1.1 (by rw [x3, eN]; omega) (by rw [y3, eN]; omega) (by rw [eM]; omega) h (t1 := (((b1 - a1) * (((b1 - a1) * (p - a1) + (b2 - a2) * (q - a2)).tdiv (((b1 - a1) * (b1 - a1) + (b2 - a2) * (b2 - a2)).tdiv 32768 + 1))).tdiv 32768)) (t2 := (((b2 - a2) * (((b1 - a1) * (p - a1) + (b2 - a2) * (q - a2)).tdiv (((b1 - a1) * (b1 - a1) + (b2 - a2) * (b2 - a2)).tdiv 32768 + 1))).tdiv 32768)) (by rw [eA, eN, eK]) (by rw [eA, eN, eK])
  exact rch_i a1 a2 b1 b2 p q R s ha hb hp hs hR p1 p2 p3 p4 c1 c2 (by rw [eL]; exact hL) hK (by omega) (by omega) t1 t2 x1 y1 x4 (M.nb2 (by omega)) (M.nb2 (by omega)) (M.nb2 (by omega)) hfin
theorem M.mem_at {xs : List Int} {i : Nat} (h : i < xs.length) : at' xs i ∈ xs := by
  unfold at'
  rw [List.getD_eq_getElem?_getD, List.getElem?_eq_getElem h, Option.getD_some]
  exact List.getElem_mem h
theorem M.hits_at {f : Nat → Bool} {n i : Nat} (h : i < (M.hits f n).length) : ∃ k : Nat, at' (M.hits f n) i = (k : Int) ∧ k < n ∧ f k = true := by
  have hm := M.mem_at h
  unfold M.hits at hm
  rw [List.mem_map] at hm
  obtain ⟨k, h1, h2⟩ := hm
  rw [List.mem_filter, List.mem_range] at h1
  exact ⟨k, h2.symm, h1.1, h1.2⟩
theorem M.hits_up {f : Nat → Bool} {n i : Nat} (h : i + 1 < (M.hits f n).length) : at' (M.hits f n) i < at' (M.hits f n) (i + 1) := by
  have hp : List.Pairwise (fun a b : Int => a < b) (M.hits f n) := by
    unfold M.hits
    rw [List.pairwise_map]
    exact (List.Pairwise.filter f List.pairwise_lt_range).imp (fun h => by omega)
  have := List.pairwise_iff_getElem.1 hp i (i + 1) zo h zo
  unfold at'
  rw [List.getD_eq_getElem?_getD, List.getD_eq_getElem?_getD, List.getElem?_eq_getElem (by omega), List.getElem?_eq_getElem h, Option.getD_some, Option.getD_some]
  exact this
theorem M.way_ok2 {E a1 a2 b1 b2 s : Int} {os : List Int} {m : Nat} (h : M.wayE E a1 a2 b1 b2 s os m = 0) : M.ptE b1 b2 = 0 := by
  unfold M.wayE at h
  by_cases hE : E = 0
  case neg => rw [if_pos hE] at h; exact absurd h hE
  rw [if_neg (by simp [hE])] at h
  by_cases hP : M.ptE a1 a2 = 0
  case neg => rw [if_pos hP] at h; omega
  rw [if_neg (by simp [hP])] at h
  by_cases hQ : M.ptE b1 b2 = 0
  · exact hQ
  · rw [if_pos hQ] at h; omega
theorem M.way_zero {a1 a2 b1 b2 s : Int} {os : List Int} {m : Nat} (h1 : M.ptE a1 a2 = 0) (h2 : M.ptE b1 b2 = 0) (h3 : M.radE s = 0) (h4 : M.othE os m = 0) : M.wayE 0 a1 a2 b1 b2 s os m = 0 := by
  unfold M.wayE M.ballE
  rw [if_neg (by simp), if_neg (by simp [h1]), if_neg (by simp [h2]), if_pos h3]
  exact h4
theorem M.nb3 {x : Int} (h : -536870912 ≤ x ∧ x ≤ 536870912) : 0 ≤ x * x ∧ x * x ≤ 288230376151711744 := by
  have := M.mul_bd x x 536870912 536870912 h.1 h.2 h.1 h.2
  exact ⟨M.sq_nonneg x, by omega⟩
theorem wya_loop (os : List Int) (m : Nat) (W : Nat) (a1 a2 b1 b2 s pt mo : Int) (h1 : nm.size ≤ 100) (h2 : n ≤ 20) (h3 : k ≤ 300) (h4 : m ≤ 12) (zs : List Int) (N : Nat) (hzl : zs.length = N * 3) (hN : N ≤ 40) (hin : ∀ x z u v d : Int, M.ptE x z = 0 → M.ptE u v = 0 → M.radE d = 0 → Meets cfx 0 28 [lwA nm w g y n a b r p q k, .raw (.agg #[.int .i64 x, .int .i64 z]), .raw (.agg #[.int .i64 u, .int .i64 v]), .raw (.int .i64 d), .slo 2 m] [bkG gs T, bkI cs U, bkI os W] (.tup [.slo 3 (M.hits (M.cutZ zs x z u v d) N).length, .raw (.int .i64 0)]) ([bkG gs T, bkI cs U, bkI os W, some (.cells (ints (M.hits (M.cutZ zs x z u v d) N)) 3 (.row 1))])) (htc : (zq100 nm w g y n a b r p q k a1 a2 s m gs T cs U os W zs N)) (hdi : (zq155 nm w g y n a b r p q k m gs T cs U os W N zs)) (hpa : M.ptE a1 a2 = 0) (hpb : M.ptE b1 b2 = 0) (hrs : M.radE s = 0) (hrw : M.radE (if s + mo < 16384 then s + mo else 16384) = 0) (hs : 1 ≤ s ∧ s ≤ 16384) (hpt : 0 ≤ pt ∧ pt ≤ 255) (hmo : 0 ≤ mo ∧ mo ≤ 255) (hg1 : ((-4194304 ≤ a1 ∧ a1 ≤ 4194304) ∧ (-4194304 ≤ a2 ∧ a2 ≤ 4194304))) (hg2 : ((-4194304 ≤ b1 ∧ b1 ≤ 4194304) ∧ (-4194304 ≤ b2 ∧ b2 ≤ 4194304))) (hpm : 0 ≤ pt.tmod 65 ∧ pt.tmod 65 ≤ 64) (hx1 : (-70368744177664 ≤ a1 * (64 - pt.tmod 65) ∧ a1 * (64 - pt.tmod 65) ≤ 70368744177664)) (hx2 : (-70368744177664 ≤ b1 * pt.tmod 65 ∧ b1 * pt.tmod 65 ≤ 70368744177664)) (hx3 : (-70368744177664 ≤ a2 * (64 - pt.tmod 65) ∧ a2 * (64 - pt.tmod 65) ≤ 70368744177664)) (hx4 : (-70368744177664 ≤ b2 * pt.tmod 65 ∧ b2 * pt.tmod 65 ≤ 70368744177664)) (hx5 : -268435456 ≤ (a1 * (64 - pt.tmod 65) + b1 * pt.tmod 65) ∧ (a1 * (64 - pt.tmod 65) + b1 * pt.tmod 65) ≤ 268435456) (hx6 : -268435456 ≤ (a2 * (64 - pt.tmod 65) + b2 * pt.tmod 65) ∧ (a2 * (64 - pt.tmod 65) + b2 * pt.tmod 65) ≤ 268435456) (hdq : ∀ i : Nat, i < N → M.In (at' zs (i * 3)) (at' zs (i * 3 + 1)) ∧ 1 ≤ at' zs (i * 3 + 2) ∧ at' zs (i * 3 + 2) ≤ 16384) : Runs cfx 0 13 none (.loop (loopOf cfx.P 7 0)) (wya_T nm gs cs n k T U w g y a b r p q os m W a1 a2 b1 b2 s pt mo zs N 0 (a1 * (64 - pt.tmod 65) + b1 * pt.tmod 65) (a2 * (64 - pt.tmod 65) + b2 * pt.tmod 65)) (wya_H nm gs cs n k T U w g y a b r p q os m W a1 a2 b1 b2 s pt mo zs N 0 (a1 * (64 - pt.tmod 65) + b1 * pt.tmod 65) (a2 * (64 - pt.tmod 65) + b2 * pt.tmod 65)) (.exit 0) (wya_T4 nm gs cs n k T U w g y a b r p q os m W a1 a2 b1 b2 s pt mo zs N (N : Int) (a1 * (64 - pt.tmod 65) + b1 * pt.tmod 65) (a2 * (64 - pt.tmod 65) + b2 * pt.tmod 65)) (wya_H4 nm gs cs n k T U w g y a b r p q os m W a1 a2 b1 b2 s pt mo zs N (N : Int) (a1 * (64 - pt.tmod 65) + b1 * pt.tmod 65) (a2 * (64 - pt.tmod 65) + b2 * pt.tmod 65)) := by
  have hqi : ∀ i : Nat, i < N → ((-4194304 ≤ at' zs (i * 3) ∧ at' zs (i * 3) ≤ 4194304) ∧ (-4194304 ≤ at' zs (i * 3 + 1) ∧ at' zs (i * 3 + 1) ≤ 4194304)) ∧ (1 ≤ at' zs (i * 3 + 2) ∧ at' zs (i * 3 + 2) ≤ 16384) := fun i hi => by
    have := hdq i hi
    unfold M.In at this
    exact this
  have hup : ∀ i : Nat, i < N → 0 ≤ ((a1 * (64 - pt.tmod 65) + b1 * pt.tmod 65) - 64 * at' zs (i * 3)) * ((a1 * (64 - pt.tmod 65) + b1 * pt.tmod 65) - 64 * at' zs (i * 3)) ∧ ((a1 * (64 - pt.tmod 65) + b1 * pt.tmod 65) - 64 * at' zs (i * 3)) * ((a1 * (64 - pt.tmod 65) + b1 * pt.tmod 65) - 64 * at' zs (i * 3)) ≤ 288230376151711744 := fun i hi => M.nb3 (by have := hqi i hi; omega)
  have hvp : ∀ i : Nat, i < N → 0 ≤ ((a2 * (64 - pt.tmod 65) + b2 * pt.tmod 65) - 64 * at' zs (i * 3 + 1)) * ((a2 * (64 - pt.tmod 65) + b2 * pt.tmod 65) - 64 * at' zs (i * 3 + 1)) ∧ ((a2 * (64 - pt.tmod 65) + b2 * pt.tmod 65) - 64 * at' zs (i * 3 + 1)) * ((a2 * (64 - pt.tmod 65) + b2 * pt.tmod 65) - 64 * at' zs (i * 3 + 1)) ≤ 288230376151711744 := fun i hi => M.nb3 (by have := hqi i hi; omega)
  have hsp : ∀ i : Nat, i < N → 0 ≤ (64 * (s + at' zs (i * 3 + 2))) * (64 * (s + at' zs (i * 3 + 2))) ∧ (64 * (s + at' zs (i * 3 + 2))) * (64 * (s + at' zs (i * 3 + 2))) ≤ 4503599627370496 := fun i hi => M.nb2 (by have := hqi i hi; omega)
  refine upto (c := cfx) (lim := 0) (n0 := 13) (x := loopOf cfx.P 7 0) noRnd (fun i : Nat => wya_T nm gs cs n k T U w g y a b r p q os m W a1 a2 b1 b2 s pt mo zs N i (a1 * (64 - pt.tmod 65) + b1 * pt.tmod 65) (a2 * (64 - pt.tmod 65) + b2 * pt.tmod 65)) (fun i : Nat => wya_H nm gs cs n k T U w g y a b r p q os m W a1 a2 b1 b2 s pt mo zs N i (a1 * (64 - pt.tmod 65) + b1 * pt.tmod 65) (a2 * (64 - pt.tmod 65) + b2 * pt.tmod 65)) N (e := .exit 0) (by simp) (fun i hi => ?_) ?_
  · by_cases hn : ((a1 * (64 - pt.tmod 65) + b1 * pt.tmod 65) - 64 * at' zs (i * 3)) * ((a1 * (64 - pt.tmod 65) + b1 * pt.tmod 65) - 64 * at' zs (i * 3)) + ((a2 * (64 - pt.tmod 65) + b2 * pt.tmod 65) - 64 * at' zs (i * 3 + 1)) * ((a2 * (64 - pt.tmod 65) + b2 * pt.tmod 65) - 64 * at' zs (i * 3 + 1)) < (64 * (s + at' zs (i * 3 + 2))) * (64 * (s + at' zs (i * 3 + 2)))
    · have hc := M.far64 (n := s + at' zs (i * 3 + 2)) hpm.1 hpm.2 hn
      rw [M.cutZ_eq] at hc
      exact wya_2 nm gs cs n k T U w g y a b r p q os m W a1 a2 b1 b2 s pt mo h1 h2 h3 h4 zs N hzl hN hin htc hdi hpa hpb hrs hrw hs hpt hmo hg1 hg2 hpm hx1 hx2 hx3 hx4 hx5 hx6 i (a1 * (64 - pt.tmod 65) + b1 * pt.tmod 65) (a2 * (64 - pt.tmod 65) + b2 * pt.tmod 65) (by omega) (by omega) hx5 hx6 (fun _ => by simp only [Int.toNat_natCast]; exact hqi i hi) (fun _ => by simp only [Int.toNat_natCast]; exact hup i hi) (fun _ => by simp only [Int.toNat_natCast]; exact hvp i hi) (fun _ => by simp only [Int.toNat_natCast]; exact hsp i hi) (by omega) (by simp only [Int.toNat_natCast]; exact hn) (by rw [M.has_hits hi]; exact hc)
    · exact wya_3 nm gs cs n k T U w g y a b r p q os m W a1 a2 b1 b2 s pt mo h1 h2 h3 h4 zs N hzl hN hin htc hdi hpa hpb hrs hrw hs hpt hmo hg1 hg2 hpm hx1 hx2 hx3 hx4 hx5 hx6 i (a1 * (64 - pt.tmod 65) + b1 * pt.tmod 65) (a2 * (64 - pt.tmod 65) + b2 * pt.tmod 65) (by omega) (by omega) hx5 hx6 (fun _ => by simp only [Int.toNat_natCast]; exact hqi i hi) (fun _ => by simp only [Int.toNat_natCast]; exact hup i hi) (fun _ => by simp only [Int.toNat_natCast]; exact hvp i hi) (fun _ => by simp only [Int.toNat_natCast]; exact hsp i hi) (by omega) (by simp only [Int.toNat_natCast]; exact hn)
  · exact wya_4 nm gs cs n k T U w g y a b r p q os m W a1 a2 b1 b2 s pt mo h1 h2 h3 h4 zs N hzl hN hin htc hdi hpa hpb hrs hrw hs hpt hmo hg1 hg2 hpm hx1 hx2 hx3 hx4 hx5 hx6 N (a1 * (64 - pt.tmod 65) + b1 * pt.tmod 65) (a2 * (64 - pt.tmod 65) + b2 * pt.tmod 65) zo zo hx5 hx6 (fun h => by omega) (fun h => by omega) (fun h => by omega) (fun h => by omega) zo
theorem wyb_loop (os : List Int) (m : Nat) (W : Nat) (a1 a2 b1 b2 s pt mo : Int) (h1 : nm.size ≤ 100) (h2 : n ≤ 20) (h3 : k ≤ 300) (h4 : m ≤ 12) (zs : List Int) (N : Nat) (hzl : zs.length = N * 3) (hN : N ≤ 40) (hin : ∀ x z u v d : Int, M.ptE x z = 0 → M.ptE u v = 0 → M.radE d = 0 → Meets cfx 0 28 [lwA nm w g y n a b r p q k, .raw (.agg #[.int .i64 x, .int .i64 z]), .raw (.agg #[.int .i64 u, .int .i64 v]), .raw (.int .i64 d), .slo 2 m] [bkG gs T, bkI cs U, bkI os W] (.tup [.slo 3 (M.hits (M.cutZ zs x z u v d) N).length, .raw (.int .i64 0)]) ([bkG gs T, bkI cs U, bkI os W, some (.cells (ints (M.hits (M.cutZ zs x z u v d) N)) 3 (.row 1))])) (htc : (zq100 nm w g y n a b r p q k a1 a2 s m gs T cs U os W zs N)) (hdi : (zq155 nm w g y n a b r p q k m gs T cs U os W N zs)) (hpa : M.ptE a1 a2 = 0) (hpb : M.ptE b1 b2 = 0) (hrs : M.radE s = 0) (hrw : M.radE (if s + mo < 16384 then s + mo else 16384) = 0) (hs : 1 ≤ s ∧ s ≤ 16384) (hpt : 0 ≤ pt ∧ pt ≤ 255) (hmo : 0 ≤ mo ∧ mo ≤ 255) (hg1 : ((-4194304 ≤ a1 ∧ a1 ≤ 4194304) ∧ (-4194304 ≤ a2 ∧ a2 ≤ 4194304))) (hg2 : ((-4194304 ≤ b1 ∧ b1 ≤ 4194304) ∧ (-4194304 ≤ b2 ∧ b2 ≤ 4194304))) (hpm : 0 ≤ pt.tmod 65 ∧ pt.tmod 65 ≤ 64) (hx1 : (-70368744177664 ≤ a1 * (64 - pt.tmod 65) ∧ a1 * (64 - pt.tmod 65) ≤ 70368744177664)) (hx2 : (-70368744177664 ≤ b1 * pt.tmod 65 ∧ b1 * pt.tmod 65 ≤ 70368744177664)) (hx3 : (-70368744177664 ≤ a2 * (64 - pt.tmod 65) ∧ a2 * (64 - pt.tmod 65) ≤ 70368744177664)) (hx4 : (-70368744177664 ≤ b2 * pt.tmod 65 ∧ b2 * pt.tmod 65 ≤ 70368744177664)) (hx5 : -268435456 ≤ (a1 * (64 - pt.tmod 65) + b1 * pt.tmod 65) ∧ (a1 * (64 - pt.tmod 65) + b1 * pt.tmod 65) ≤ 268435456) (hx6 : -268435456 ≤ (a2 * (64 - pt.tmod 65) + b2 * pt.tmod 65) ∧ (a2 * (64 - pt.tmod 65) + b2 * pt.tmod 65) ≤ 268435456) (hdq : ∀ i : Nat, i < N → M.In (at' zs (i * 3)) (at' zs (i * 3 + 1)) ∧ 1 ≤ at' zs (i * 3 + 2) ∧ at' zs (i * 3 + 2) ≤ 16384) (hR0 : (zq40 nm gs cs n k T U w g y a b r p q os m W a1 a2 b1 b2 s pt mo zs N)) : Runs cfx 0 13 none (.loop (loopOf cfx.P 7 1)) (wyb_T nm gs cs n k T U w g y a b r p q os m W a1 a2 b1 b2 s pt mo zs N 0) (wyb_H nm gs cs n k T U w g y a b r p q os m W a1 a2 b1 b2 s pt mo zs N 0) (.exit 2) (wybe_T1 nm gs cs n k T U w g y a b r p q os m W a1 a2 b1 b2 s pt mo zs N ((M.hits (M.cutZ zs a1 a2 b1 b2 s) N).length : Int)) (wybe_H1 nm gs cs n k T U w g y a b r p q os m W a1 a2 b1 b2 s pt mo zs N ((M.hits (M.cutZ zs a1 a2 b1 b2 s) N).length : Int)) := by
  have hl := M.hits_len (M.cutZ zs a1 a2 b1 b2 s) N
  have hwi : ∀ i : Nat, i < (M.hits (M.cutZ zs a1 a2 b1 b2 s) N).length → 0 ≤ at' (M.hits (M.cutZ zs a1 a2 b1 b2 s) N) (i * 1) ∧ at' (M.hits (M.cutZ zs a1 a2 b1 b2 s) N) (i * 1) < ↑N := fun i hi => by
    obtain ⟨j, e, h2, _⟩ := M.hits_at hi
    rw [Nat.mul_one, e]
    omega
  have hqd : ∀ i : Nat, i < (M.hits (M.cutZ zs a1 a2 b1 b2 s) N).length → ((-4194304 ≤ at' zs ((at' (M.hits (M.cutZ zs a1 a2 b1 b2 s) N) (i * 1)).toNat * 3) ∧ at' zs ((at' (M.hits (M.cutZ zs a1 a2 b1 b2 s) N) (i * 1)).toNat * 3) ≤ 4194304) ∧ (-4194304 ≤ at' zs ((at' (M.hits (M.cutZ zs a1 a2 b1 b2 s) N) (i * 1)).toNat * 3 + 1) ∧ at' zs ((at' (M.hits (M.cutZ zs a1 a2 b1 b2 s) N) (i * 1)).toNat * 3 + 1) ≤ 4194304)) ∧ (1 ≤ at' zs ((at' (M.hits (M.cutZ zs a1 a2 b1 b2 s) N) (i * 1)).toNat * 3 + 2) ∧ at' zs ((at' (M.hits (M.cutZ zs a1 a2 b1 b2 s) N) (i * 1)).toNat * 3 + 2) ≤ 16384) := fun i hi => by
    have := hdq (at' (M.hits (M.cutZ zs a1 a2 b1 b2 s) N) (i * 1)).toNat (by have := hwi i hi; omega)
    unfold M.In at this
    exact this
  have hre : ∀ i : Nat, i < (M.hits (M.cutZ zs a1 a2 b1 b2 s) N).length → Ret cfx 44 [.raw (.agg #[.int .i64 a1, .int .i64 a2]), .raw (.agg #[.int .i64 b1, .int .i64 b2]), .raw (.agg #[.int .i64 (at' zs ((at' (M.hits (M.cutZ zs a1 a2 b1 b2 s) N) (i * 1)).toNat * 3)), .int .i64 (at' zs ((at' (M.hits (M.cutZ zs a1 a2 b1 b2 s) N) (i * 1)).toNat * 3 + 1)), .int .i64 (at' zs ((at' (M.hits (M.cutZ zs a1 a2 b1 b2 s) N) (i * 1)).toNat * 3 + 2))]), .raw (.int .i64 s)] (.raw (.bool true)) := fun i hi => by
    obtain ⟨j, e, h2, h3⟩ := M.hits_at hi
    rw [Nat.mul_one, e, Int.toNat_natCast]
    unfold M.cutZ at h3
    exact lwReached hg1 hg2 (hdq j h2) hs h3
  refine upto (c := cfx) (lim := 0) (n0 := 13) (x := loopOf cfx.P 7 1) noRnd (fun i : Nat => wyb_T nm gs cs n k T U w g y a b r p q os m W a1 a2 b1 b2 s pt mo zs N i) (fun i : Nat => wyb_H nm gs cs n k T U w g y a b r p q os m W a1 a2 b1 b2 s pt mo zs N i) (M.hits (M.cutZ zs a1 a2 b1 b2 s) N).length (e := .exit 2) (by simp) (fun i hi => ?_) ?_
  · by_cases h0 : i = 0
    · exact wybn_3 nm gs cs n k T U w g y a b r p q os m W a1 a2 b1 b2 s pt mo h1 h2 h3 h4 zs N hzl hN hin htc hdi hpa hpb hrs hrw hs hpt hmo hg1 hg2 hpm hx1 hx2 hx3 hx4 hx5 hx6 hR0 i (by omega) (by omega) (by omega) (by simp only [Int.toNat_natCast]; exact hwi i hi) (by simp only [Int.toNat_natCast]; exact hqd i hi) (by first | (simp only [Int.toNat_natCast]; exact hre i hi) | exact hre i hi) (by omega)
    · obtain ⟨j, rfl⟩ : ∃ j, i = j + 1 := ⟨i - 1, by omega⟩
      have hu := M.hits_up hi
      exact wybn_2 nm gs cs n k T U w g y a b r p q os m W a1 a2 b1 b2 s pt mo h1 h2 h3 h4 zs N hzl hN hin htc hdi hpa hpb hrs hrw hs hpt hmo hg1 hg2 hpm hx1 hx2 hx3 hx4 hx5 hx6 hR0 (j + 1 : Nat) (by omega) (by omega) (by omega) (by simp only [Int.toNat_natCast]; exact hwi _ hi) (by simp only [Int.toNat_natCast]; exact hqd _ hi) (by first | (simp only [Int.toNat_natCast]; exact hre _ hi) | exact hre _ hi) (by omega) (by
        rw [show (((j + 1 : Nat) : Int) - 1).toNat = j by omega, Int.toNat_natCast, Nat.mul_one, Nat.mul_one]
        omega)
  · exact wybe_1 nm gs cs n k T U w g y a b r p q os m W a1 a2 b1 b2 s pt mo h1 h2 h3 h4 zs N hzl hN hin htc hdi hpa hpb hrs hrw hs hpt hmo hg1 hg2 hpm hx1 hx2 hx3 hx4 hx5 hx6 hR0 ((M.hits (M.cutZ zs a1 a2 b1 b2 s) N).length : Int) zo zo zo
theorem rnPostsX_ok (E : Int) (hC : (zq185 nm w g y n a b r p q k gs T cs U E)) (ps : List Int) (c : Nat) (hpo : (zq165 nm w g y n a b r p q k gs T cs U c ps)) (hE : E = 0)  : Meets cfx 0 15 [lwA nm w g y n a b r p q k] [bkG gs T, bkI cs U] (V.tup [.slo 2 c, iV 0]) [bkG gs T, bkI cs U, some (.cells (ints ps) 26 (.row 3))] := by
  refine Meets.post (mev (ans := [Ans.go, Ans.reth (iV E) [bkG gs T, bkI cs U, bkW nm w g y n a b r p q k], zF, Ans.reth (.slo 3 c) [bkG gs T, bkI cs U, bkW nm w g y n a b r p q k, some (.cells (ints ps) 26 (.row 3))]]) (v := V.tup [.slo 3 c, iV 0]) (h' := [bkG gs T, bkI cs U, bkW nm w g y n a b r p q k, some (.cells (ints ps) 26 (.row 3))]) (cons := [(Meets cfx 0 45 [lwA nm w g y n a b r p q k] [bkG gs T, bkI cs U, bkW nm w g y n a b r p q k] (iV E) [bkG gs T, bkI cs U, bkW nm w g y n a b r p q k]), ((!decide (E = 0)) = false), (Meets cfx 0 54 [lwA nm w g y n a b r p q k] [bkG gs T, bkI cs U, bkW nm w g y n a b r p q k] (.slo 3 c) [bkG gs T, bkI cs U, bkW nm w g y n a b r p q k, some (.cells (ints ps) 26 (.row 3))])]) zk
    ⟨(by exact below2 (lim := 0) rfl rfl 0 1 (N := []) hC (mix_all _ _) (ints_all _) rfl (fun k X h => by simp at h) rfl rfl zz), zdf, (by exact below2 (lim := 0) rfl rfl 0 1 (N := [some (.cells (ints ps) 26 (.row 3))]) hpo (mix_all _ _) (ints_all _) rfl (new_row _ _ _) rfl rfl zz), trivial⟩) zk (fun RT RH => reshape2 (lim := 0) 2 cfx_G rfl [some 3] zk zk (by exact (ents_raw (mix_all _ _) rfl rfl (ents_raw (ints_all _) rfl rfl (ents_raw (ints_all _) rfl rfl (ents_nil))))) RT RH)
theorem lawWays (os : List Int) (m : Nat) (W : Nat) (a1 a2 b1 b2 s pt mo : Int) (hzg : n * 5 ≤ gs.length) (hzc : k * 3 ≤ cs.length) (h9 : nm.size ≤ 9223372036854775807) (hz : m * 3 ≤ os.length) (hpt : 0 ≤ pt ∧ pt ≤ 255) (hmo : 0 ≤ mo ∧ mo ≤ 255) : Meets cfx 0 7 (zq148 nm w g y n a b r p q k a1 a2 b1 b2 s m pt mo) [bkG gs T, bkI cs U, bkI os W] (.raw (.bool true)) [bkG gs T, bkI cs U, bkI os W] := by
  by_cases h1 : nm.size ≤ 100
  case neg => exact wys_great1 nm gs cs n k T U w g y a b r p q os m W a1 a2 b1 b2 s pt mo zo h9
  by_cases h2 : n ≤ 20
  case neg => exact wys_great2 nm gs cs n k T U w g y a b r p q os m W a1 a2 b1 b2 s pt mo h1 zo
  by_cases h3 : k ≤ 300
  case neg => exact wys_great3 nm gs cs n k T U w g y a b r p q os m W a1 a2 b1 b2 s pt mo h1 h2 zo
  by_cases h4 : m ≤ 12
  case neg => exact wys_great4 nm gs cs n k T U w g y a b r p q os m W a1 a2 b1 b2 s pt mo h1 h2 h3 zo
  rcases wayBoth nm gs cs n k T U w g y a b r p q os m W a1 a2 b1 b2 s hzg hzc h2 h3 h1 hz zo with ⟨he, hw, _⟩ | ⟨he, _, _⟩
  · exact wys_bad nm gs cs n k T U w g y a b r p q os m W a1 a2 b1 b2 s pt mo h1 h2 h3 h4 _ he hw
  obtain ⟨hE, hP, hS, hO⟩ := M.way_ok he
  have hQ := M.way_ok2 he
  have hdq := M.disc_facts hE hO
  have hs := M.rad_iff.1 hS
  have hn12 := (M.lawn_ok hE).1
  have hh := (M.lawn_ok hE).2.2.1
  have hR := rnCheck nm gs cs n k T U w g y a b r p q hzg hzc h2 h3 h1
  have hl := M.rowP_len gs n a b r
  have hzl : (M.rowP gs n a b r ++ List.take (m * 3) os).length = (2 * n + 1 + m) * 3 := by rw [List.length_append, List.length_take, hl]; omega
  have hdi := lwDiscs nm gs cs n k T U w g y a b r p q os m W _ _ (rnPostsX_ok nm gs cs n k T U w g y a b r p q _ hR _ _ (rnPosts nm gs cs n k T U w g y a b r p q hzg h2 hh) hE) hl hz zo zo
  have hin : ∀ x z u v d : Int, M.ptE x z = 0 → M.ptE u v = 0 → M.radE d = 0 → Meets cfx 0 28 [lwA nm w g y n a b r p q k, .raw (.agg #[.int .i64 x, .int .i64 z]), .raw (.agg #[.int .i64 u, .int .i64 v]), .raw (.int .i64 d), .slo 2 m] [bkG gs T, bkI cs U, bkI os W] (.tup [.slo 3 (M.hits (M.cutZ (M.rowP gs n a b r ++ List.take (m * 3) os) x z u v d) (2 * n + 1 + m)).length, .raw (.int .i64 0)]) ([bkG gs T, bkI cs U, bkI os W, some (.cells (ints (M.hits (M.cutZ (M.rowP gs n a b r ++ List.take (m * 3) os) x z u v d) (2 * n + 1 + m))) 3 (.row 1))]) := fun x z u v d k1 k2 k3 => by
    rcases wayBoth nm gs cs n k T U w g y a b r p q os m W x z u v d hzg hzc h2 h3 h1 hz zo with ⟨e, _, _⟩ | ⟨_, h, _⟩
    · exact absurd (by rw [hE]; exact M.way_zero k1 k2 k3 hO) e
    · exact h
  have htc : Meets cfx 0 30 (zq186 nm w g y n a b r p q k a1 a2 s m) [bkG gs T, bkI cs U, bkI os W] (.tup [.slo 3 (M.hits (M.cutZ (M.rowP gs n a b r ++ List.take (m * 3) os) a1 a2 a1 a2 s) (2 * n + 1 + m)).length, .raw (.int .i64 0)]) ([bkG gs T, bkI cs U, bkI os W, some (.cells (ints (M.hits (M.cutZ (M.rowP gs n a b r ++ List.take (m * 3) os) a1 a2 a1 a2 s) (2 * n + 1 + m))) 3 (.row 1))]) := by
    rcases touchBoth nm gs cs n k T U w g y a b r p q os m W a1 a2 s hzg hzc h2 h3 h1 hz zo with ⟨e, _, _⟩ | ⟨_, h, _⟩
    · exact absurd (by rw [hE]; exact M.way_zero hP hP hS hO) e
    · exact h
  have ha := M.pt_iff.1 hP
  have hb := M.pt_iff.1 hQ
  have hmin : 1 ≤ (if s + mo < 16384 then s + mo else 16384) ∧ (if s + mo < 16384 then s + mo else 16384) ≤ 16384 ∧ s ≤ (if s + mo < 16384 then s + mo else 16384) := by split <;> omega
  have hpm : 0 ≤ pt.tmod 65 ∧ pt.tmod 65 ≤ 64 := by
    rw [Int.tmod_eq_emod_of_nonneg hpt.1]
    omega
  have x1 := M.mul_bd a1 (64 - pt.tmod 65) 4194304 64 zo zo zo zo
  have x2 := M.mul_bd b1 (pt.tmod 65) 4194304 64 zo zo zo zo
  have x3 := M.mul_bd a2 (64 - pt.tmod 65) 4194304 64 zo zo zo zo
  have x4 := M.mul_bd b2 (pt.tmod 65) 4194304 64 zo zo zo zo
  have cvx : ∀ u v : Int, (-4194304 ≤ u ∧ u ≤ 4194304) → (-4194304 ≤ v ∧ v ≤ 4194304) → -268435456 ≤ u * (64 - pt.tmod 65) + v * pt.tmod 65 ∧ u * (64 - pt.tmod 65) + v * pt.tmod 65 ≤ 268435456 := fun u v k1 k2 => by
    have y1 := Int.mul_le_mul_of_nonneg_right k1.2 (show 0 ≤ 64 - pt.tmod 65 by omega)
    have y2 := Int.mul_le_mul_of_nonneg_right k1.1 (show 0 ≤ 64 - pt.tmod 65 by omega)
    have y3 := Int.mul_le_mul_of_nonneg_right k2.2 hpm.1
    have y4 := Int.mul_le_mul_of_nonneg_right k2.1 hpm.1
    omega
  have e5 := cvx a1 b1 ha.1 hb.1
  have e6 := cvx a2 b2 ha.2 hb.2
  have hsm : (M.hits (M.cutZ (M.rowP gs n a b r ++ List.take (m * 3) os) a1 a2 b1 b2 s) (2 * n + 1 + m)) = (M.hits (M.cutZ (M.rowP gs n a b r ++ List.take (m * 3) os) b1 b2 a1 a2 s) (2 * n + 1 + m)) := by
    congr 1
    funext i
    unfold M.cutZ
    exact M.cut_back _ _ _ _ _ _ _
  have hwi1 : ∀ i : Nat, i < (M.hits (M.cutZ (M.rowP gs n a b r ++ List.take (m * 3) os) a1 a2 a1 a2 s) (2 * n + 1 + m)).length → M.hasB (M.hits (M.cutZ (M.rowP gs n a b r ++ List.take (m * 3) os) a1 a2 b1 b2 s) (2 * n + 1 + m)) (at' (M.hits (M.cutZ (M.rowP gs n a b r ++ List.take (m * 3) os) a1 a2 a1 a2 s) (2 * n + 1 + m)) i) = true := fun i hi => by
    obtain ⟨j, e, k1, k2⟩ := M.hits_at hi
    rw [e, M.has_hits k1]
    unfold M.cutZ at k2 ⊢
    have hd := hdq j k1
    have c0 := (M.cut_cases k2).1 (by unfold M.ahead; simp)
    refine M.far64 (k := 0) zo zo ?_
    have e0 : ∀ x z X Z t : Int, M.sq x z X Z < t * t → (x * (64 - 0) + b1 * 0 - 64 * X) * (x * (64 - 0) + b1 * 0 - 64 * X) + (z * (64 - 0) + b2 * 0 - 64 * Z) * (z * (64 - 0) + b2 * 0 - 64 * Z) < 64 * t * (64 * t) := fun x z X Z t h => by
      have q1 : (x * (64 - 0) + b1 * 0 - 64 * X) * (x * (64 - 0) + b1 * 0 - 64 * X) + (z * (64 - 0) + b2 * 0 - 64 * Z) * (z * (64 - 0) + b2 * 0 - 64 * Z) = 4096 * M.sq x z X Z := by unfold M.sq; grind
      have q2 : 64 * t * (64 * t) = 4096 * (t * t) := by grind
      omega
    exact e0 _ _ _ _ _ c0
  have hwi2 : ∀ i : Nat, i < (M.hits (M.cutZ (M.rowP gs n a b r ++ List.take (m * 3) os) a1 a2 b1 b2 s) (2 * n + 1 + m)).length → M.hasB (M.hits (M.cutZ (M.rowP gs n a b r ++ List.take (m * 3) os) a1 a2 b1 b2 (if s + mo < 16384 then s + mo else 16384)) (2 * n + 1 + m)) (at' (M.hits (M.cutZ (M.rowP gs n a b r ++ List.take (m * 3) os) a1 a2 b1 b2 s) (2 * n + 1 + m)) i) = true := fun i hi => by
    obtain ⟨j, e, k1, k2⟩ := M.hits_at hi
    rw [e, M.has_hits k1]
    unfold M.cutZ at k2 ⊢
    have hd := hdq j k1
    exact M.cut_wide zo zo k2
  have hg : ∀ x z : Int, M.ptE x z = 0 → ((-4194304 ≤ x ∧ x ≤ 4194304) ∧ (-4194304 ≤ z ∧ z ≤ 4194304)) := fun x z h => M.pt_iff.1 h
  have R0 := wya_loop nm gs cs n k T U w g y a b r p q os m W a1 a2 b1 b2 s pt mo h1 h2 h3 h4 (M.rowP gs n a b r ++ List.take (m * 3) os) (2 * n + 1 + m) hzl zo hin htc hdi hP hQ hS (M.rad_iff.2 ⟨hmin.1, hmin.2.1⟩) hs hpt hmo ha hb hpm zo zo zo zo e5 e6 hdq
  have R1 := wyb_loop nm gs cs n k T U w g y a b r p q os m W a1 a2 b1 b2 s pt mo h1 h2 h3 h4 (M.rowP gs n a b r ++ List.take (m * 3) os) (2 * n + 1 + m) hzl zo hin htc hdi hP hQ hS (M.rad_iff.2 ⟨hmin.1, hmin.2.1⟩) hs hpt hmo ha hb hpm zo zo zo zo e5 e6 hdq R0
  exact wys_ok nm gs cs n k T U w g y a b r p q os m W a1 a2 b1 b2 s pt mo h1 h2 h3 h4 (M.rowP gs n a b r ++ List.take (m * 3) os) (2 * n + 1 + m) hzl zo hin htc hdi hP hQ hS (M.rad_iff.2 ⟨hmin.1, hmin.2.1⟩) hs hpt hmo ha hb hpm zo zo zo zo e5 e6 hsm hwi1 hwi2 R0 R1
end Go.Proofs.Ytmelbcmfahcffaa
end
section
namespace Go.Proofs.Ytmelbcmfahcffaa.K
open Go Go.Deep Go.ChangeShapes Go.WideShapes Go.ChangeAt Go.RowKit
section
variable {H : Type} {enc : TypeId × Value → H} {P : Program} {w : World} {base : Nat} {spare : Nat → Bool} {held : Bool} {r : Reach} {b0 : Nat}
theorem open_parts {t : TypeId} {fs : Array Field} {v : Value} {dd : DataW H} {p : List MemPlace} (ts : List TypeId) (hts : P.cellTypes P.depth t = some ts) (hs : P.underlying t = some (.struct fs)) (hv : Value.okWide P w r b0 t v) (h : DataW.Trod enc P w base spare held t v dd p) :
    ∃ cs : List Value, v = .agg ⟨cs⟩ ∧ cs.length = P.cellsOf t ∧ (∀ (i : Nat) (f : Field), fs[i]? = some f → ∃ fuel x, DataW.trod enc P w base spare held fuel f.type ((cs.drop f.offset).take (P.cellsOf f.type)) = some x) ∧
      ∀ (i : Nat) (u : Value), cs[i]? = some u → ∃ y, ts[i % ts.length]? = some y ∧ Cell.okWide P w r b0 y u := by
  unfold Value.okWide at hv
  rw [hs] at hv
  obtain ⟨cs, rfl, hsz, ts', h1, _, h3⟩ := hv
  rw [hts, Option.some.injEq] at h1
  subst h1
  refine ⟨cs.toList, rfl, by simpa using hsz, fun i f hi => ?_, fun i u hu => h3 i u (by simpa using hu)⟩
  obtain ⟨fuel, hf⟩ := h
  obtain ⟨xs, n, _, _, hl, hxl, hg⟩ := DataW.trod_struct hs hf
  have hlt : i < xs.length := by
    have := (Array.getElem?_eq_some_iff.1 hi).1
    omega
  exact ⟨n, xs[i], (hg i f hi).trans (List.getElem?_eq_getElem hlt)⟩
theorem cell_slice {t e : TypeId} {u : Value} {fuel : Nat} {x : DataW H × List MemPlace} (hs : P.underlying t = some (.slice e)) (hc : Cell.okWide P w r b0 t u) (h : DataW.trod enc P w base spare held fuel t [u] = some x) : Value.okWide P w r b0 t u ∧ DataW.Trod enc P w base spare held t u x.1 x.2 := by
  have hv : Value.okWide P w r b0 t u := by
    unfold Value.okWide
    rw [hs]
    exact hc
  obtain ⟨a, l, c, rfl⟩ := okWide_slice hs hv
  exact ⟨hv, fuel, h⟩
theorem cell_int {t : TypeId} {k : IntKind} {fuel : Nat} {u : Value} {x : DataW H × List MemPlace} (hk : flatK P 9 t = some [some k]) (h : DataW.trod enc P w base spare held fuel t [u] = some x) : ∃ n, u = .int k n ∧ (Lit.int k n).wf = true := by
  obtain ⟨n, rest, h1, h2, _⟩ := flat_cells 9 fuel t _ _ _ hk h
  cases h1
  exact ⟨n, rfl, h2⟩
theorem list11 {α : Type} {l : List α} (h : l.length = 11) : ∃ a0 a1 a2 a3 a4 a5 a6 a7 a8 a9 a10, l = [a0, a1, a2, a3, a4, a5, a6, a7, a8, a9, a10] := by
  match l, h with
  | [a0, a1, a2, a3, a4, a5, a6, a7, a8, a9, a10], _ => exact ⟨a0, a1, a2, a3, a4, a5, a6, a7, a8, a9, a10, rfl⟩
end
end Go.Proofs.Ytmelbcmfahcffaa.K
namespace Go.Proofs.Ytmelbcmfahcffaa.E2
open Go Go.RowKit
def RowsAt (ls : List Loc) (H : Heap) (w : World) : Prop := ∀ (i : Nat) (B : Blk), H[i]? = some (some B) → ∃ cs T, B = .cells cs T .ro ∧ cs.all isRawV = true ∧ ∀ ρ, CellsOk ρ (ls.getD i (Loc.at 0)) w cs T .ro
theorem rowsAt_nil {w : World} : RowsAt [] [] w := fun i B h => by simp at h
theorem rowsAt_cons {cs : List V} {T : TypeId} {l : Loc} {ls : List Loc} {H : Heap} {w : World} (ha : cs.all isRawV = true) (h0 : ∀ ρ, CellsOk ρ l w cs T .ro) (hr : RowsAt ls H w) : RowsAt (l :: ls) (some (.cells cs T .ro) :: H) w := fun i B h => by
  match i with
  | 0 =>
    simp only [List.getElem?_cons_zero, Option.some.injEq] at h
    exact ⟨cs, T, h.symm, ha, h0⟩
  | i + 1 => exact hr i B (by simpa using h)
theorem calls_at {c : Cfg} {lim : Nat} {f : FuncId} {args : List V} {H H' : Heap} {x : Value} (hm : Meets c lim f args H (.raw x) H') (hL : c.L = 0) (hG : c.G = []) (ls : List Loc) (w : World) (hlen : ls.length = H.length)
    (hro : RowsAt ls H w) (hu : unders H.length args = true) :
    Calls c.P f (concs ⟨fun i => ls.getD i (Loc.at 0), fun _ => undef⟩ args).toArray w fun e w' => e = .returned x ∧ Below w.heap.size w w' := by
  have R : RelH c ⟨fun i => ls.getD i (Loc.at 0), fun _ => undef⟩ H w := by
    refine ⟨fun i B hB => ?_, fun i j hi hj he => ?_, fun i B hB => ?_, fun p hp => (by rw [hG] at hp; cases hp), by omega, fun i hi => by omega⟩
    · obtain ⟨cs, T, rfl, _, hk⟩ := hro i B hB
      exact hk _
    · obtain ⟨B, a1, a2, a3⟩ := hi
      obtain ⟨cs, T, rfl, _⟩ := hro i B a1
      cases a2
    · obtain ⟨cs, T, rfl, ha, _⟩ := hro i B hB
      exact unders_raws _ _ ha
  refine (hm _ w R hu).mono fun e w' ⟨ρ', _, he, _, F, _⟩ => ?_
  refine ⟨he, F.os, F.tape, F.output, F.size, fun k hk => F.blk k hk fun i _ h2 => ?_⟩
  obtain ⟨B, a1, a2, a3⟩ := h2
  obtain ⟨cs, T, rfl, _⟩ := hro i B a1
  cases a2
end Go.Proofs.Ytmelbcmfahcffaa.E2
end
section
namespace Go.Proofs.Ytmelbcmfahcffaa.K
open Go Go.Deep Go.ChangeShapes Go.WideShapes Go.ChangeAt Go.RowKit
section
variable {H : Type} {enc : TypeId × Value → H} {w : World} {base : Nat} {spare : Nat → Bool} {held : Bool} {r : Reach} {b0 : Nat}
set_option maxHeartbeats 1000000 in
theorem open_lawn {v : Value} {dd : DataW H} {p : List MemPlace} (hv : Value.okWide Try.prog w r b0 29 v) (h : DataW.Trod enc Try.prog w base spare held 29 v dd p) :
    ∃ (nm : ByteArray) (z0 z1 z2 z3 z4 z5 z6 z7 : Int) (l0 l1 : E2.Loc) (n k : Nat) (gs cs : List Int) (T U : TypeId), v = .agg ⟨[.string nm, .int .i64 z0, .int .i64 z1, .int .i64 z2, E2.slcOf l0 n, .int .i64 z3, .int .i64 z4, .int .i64 z5, .int .i64 z6, .int .i64 z7, E2.slcOf l1 k]⟩ ∧
      nm.size ≤ maxLen ∧ ((Lit.int .i64 z0).wf = true ∧ (Lit.int .i64 z1).wf = true ∧ (Lit.int .i64 z2).wf = true ∧ (Lit.int .i64 z3).wf = true ∧ (Lit.int .i64 z4).wf = true ∧ (Lit.int .i64 z5).wf = true ∧ (Lit.int .i64 z6).wf = true ∧ (Lit.int .i64 z7).wf = true) ∧
      gs.length = n * 5 ∧ cs.length = k * 3 ∧ (∀ ρ, E2.CellsOk ρ l0 w (E2.mix [false, false, false, false, true] gs) T .ro) ∧ ∀ ρ, E2.CellsOk ρ l1 w (E2.ints cs) U .ro := by
  obtain ⟨cs, rfl, hlen, hf, hc⟩ := open_parts (P := Try.prog) [9, 2, 2, 2, 22, 2, 2, 2, 3, 3, 27] zk Try.underlying29 hv h
  obtain ⟨a0, a1, a2, a3, a4, a5, a6, a7, a8, a9, a10, rfl⟩ := list11 (hlen.trans zk)
  obtain ⟨_, _, f0⟩ := hf 0 _ rfl
  obtain ⟨_, _, f1⟩ := hf 1 _ rfl
  obtain ⟨_, _, f2⟩ := hf 2 _ rfl
  obtain ⟨_, _, f3⟩ := hf 3 _ rfl
  obtain ⟨_, _, f4⟩ := hf 4 _ rfl
  obtain ⟨_, _, f5⟩ := hf 5 _ rfl
  obtain ⟨_, _, f6⟩ := hf 6 _ rfl
  obtain ⟨_, _, f7⟩ := hf 7 _ rfl
  obtain ⟨_, _, f8⟩ := hf 8 _ rfl
  obtain ⟨y4, e4, c4⟩ := hc 4 a4 rfl
  obtain ⟨y10, e10, c10⟩ := hc 10 a10 rfl
  cases e4
  cases e10
  obtain ⟨nm, e0, _, hnm⟩ := DataW.trod_string (P := Try.prog) Try.underlying9 f0
  obtain ⟨z0, rfl, w0⟩ := cell_int (P := Try.prog) (t := 2) (k := .i64) zk f1
  obtain ⟨z1, rfl, w1⟩ := cell_int (P := Try.prog) (t := 2) (k := .i64) zk f2
  obtain ⟨z2, rfl, w2⟩ := cell_int (P := Try.prog) (t := 2) (k := .i64) zk f3
  obtain ⟨v4, t4⟩ := cell_slice (P := Try.prog) Try.underlying22 c4 f4
  obtain ⟨z3, _, d3, w3, z4, _, d4, w4, z5, _, d5, w5, _⟩ := flat_cells (P := Try.prog) 9 _ 26 [some .i64, some .i64, some .i64] _ _ zk f5
  obtain ⟨z6, rfl, w6⟩ := cell_int (P := Try.prog) (t := 3) (k := .i64) zk f6
  obtain ⟨z7, rfl, w7⟩ := cell_int (P := Try.prog) (t := 3) (k := .i64) zk f7
  obtain ⟨v10, t10⟩ := cell_slice (P := Try.prog) Try.underlying27 c10 f8
  cases e0
  cases d3
  cases d4
  cases d5
  obtain ⟨l0, n, gs, T, rfl, hg, _, h0⟩ := open_mix (P := Try.prog) [false, false, false, false, true] Try.underlying22 zk zk (by decide) v4 t4
  obtain ⟨l1, k, cs, U, rfl, hk, _, h1⟩ := open_row (P := Try.prog) Try.underlying27 (show K.flatK Try.prog 9 39 = some (List.replicate 3 (some .i64)) by kernel_rfl) (show Try.prog.cellsOf 39 = 3 by kernel_rfl) (by decide) v10 t10
  exact ⟨nm, z0, z1, z2, z3, z4, z5, z6, z7, l0, l1, n, k, gs, cs, T, U, rfl, hnm, ⟨w0, w1, w2, w3, w4, w5, w6, w7⟩, hg, hk, h0, h1⟩
end
end Go.Proofs.Ytmelbcmfahcffaa.K
end
section
namespace Go.Proofs.Ytmelbcmfahcffaa
open Go Go.ChangeShapes Go.WideShapes Go.ChangeAt Go.RowKit
theorem own : ownKnob Try.prog.godebug = none := by kernel_rfl
theorem laidOut : laidOutB Try.prog = true := by kernel_rfl
noncomputable def laidWorld (os : Os) : World := World.holding Try.prog os ⟨#[], #[], []⟩
end Go.Proofs.Ytmelbcmfahcffaa
end
section
namespace Go.Proofs.Ytmelbcmfahcffaa
open Go Go.ChangeShapes Go.WideShapes Go.ChangeAt Go.RowKit
namespace lawnWays
theorem readable : ∀ t ∈ Try.f7.params.toList, Try.prog.readableRec t = true ∧ t < Try.prog.types.size := fun t ht => by
  have h := List.all_eq_true.1 (show (Try.f7.params.toList.all fun t => Try.prog.readableRec t && decide (t < Try.prog.types.size)) = true by kernel_rfl) t ht
  rw [Bool.and_eq_true, decide_eq_true_eq] at h
  exact h
theorem contract (H : Type) (enc : TypeId × Value → H) (W : World) (base : Nat) (args : Array Value) (ds gs : List (DataW H)) (before : List MemPlace)
    (hval : ∀ (j : Nat) t v, Try.f7.params[j]? = some t → args[j]? = some v → Value.okWide Try.prog W .any base t v)
    (hW : DataW.Whole enc Try.prog Try.f7.params.toList Rows.lawnWaysSpec.vars false W args.toList ds gs before) :
    Calls Try.prog 7 args W fun e W' => ∃ v, e = .returned v ∧ Rows.lawnWaysSpec.post enc Try.prog Try.f7 false true false false W args v W' := by
  have hW' := hW
  obtain ⟨p, q, hA0, hV, rfl, hfz, hnd⟩ := hW
  have hA : DataW.TrodAll enc Try.prog W 0 (fun _ => true) true Try.f7.params.toList args.toList ds p := hA0
  rw [Try.params7] at hA hval
  obtain ⟨v0, vs0, d0, ds0, p0, q0, hargs, rfl, rfl, h0, r0⟩ := trodAll_cons hA
  obtain ⟨v1, vs1, d1, ds1, p1, q1, rfl, rfl, rfl, h1, r1⟩ := trodAll_cons r0
  obtain ⟨v2, vs2, d2, ds2, p2, q2, rfl, rfl, rfl, h2, r2⟩ := trodAll_cons r1
  obtain ⟨v3, vs3, d3, ds3, p3, q3, rfl, rfl, rfl, h3, r3⟩ := trodAll_cons r2
  obtain ⟨v4, vs4, d4, ds4, p4, q4, rfl, rfl, rfl, h4, r4⟩ := trodAll_cons r3
  obtain ⟨v5, vs5, d5, ds5, p5, q5, rfl, rfl, rfl, h5, r5⟩ := trodAll_cons r4
  obtain ⟨v6, vs6, d6, ds6, p6, q6, rfl, rfl, rfl, h6, r6⟩ := trodAll_cons r5
  obtain ⟨rfl, rfl, rfl⟩ := trodAll_nil r6
  obtain rfl : args = #[v0, v1, v2, v3, v4, v5, v6] := by cases args; simp_all
  obtain ⟨rfl, rfl⟩ := trodVars_none hV
  obtain ⟨l_nm, l_z0, l_z1, l_z2, l_z3, l_z4, l_z5, l_z6, l_z7, l_la, l_lb, l_n, l_k, l_gs, l_cs, l_T, l_U, rfl, l_hnm, l_hz, l_hg, l_hk, l_ha, l_hb⟩ := K.open_lawn (hval 0 29 v0 rfl rfl) h0
  obtain ⟨c1, rfl, g1⟩ := K.flat_open Try.underlying24 (show K.flatK Try.prog 9 24 = some [some .i64, some .i64] by kernel_rfl) (hval 1 24 v1 rfl rfl) h1
  obtain ⟨p0, zp0, rfl, xp0, p1, zp1, rfl, xp1, rfl⟩ := g1
  have yp0 := bounds_i64 xp0
  have yp1 := bounds_i64 xp1
  obtain ⟨c2, rfl, g2⟩ := K.flat_open Try.underlying24 (show K.flatK Try.prog 9 24 = some [some .i64, some .i64] by kernel_rfl) (hval 2 24 v2 rfl rfl) h2
  obtain ⟨q0, zq0, rfl, xq0, q1, zq1, rfl, xq1, rfl⟩ := g2
  have yq0 := bounds_i64 xq0
  have yq1 := bounds_i64 xq1
  obtain ⟨r, rfl, _, _, xr⟩ := open_int Try.underlying2 (hval 3 2 v3 rfl rfl) h3
  have yr := bounds_i64 xr
  obtain ⟨others_l, others_m, others_z, others_T, rfl, others_len, others_rng, others_ok⟩ := K.open_row Try.underlying32 (show K.flatK Try.prog 9 26 = some (List.replicate 3 (some .i64)) by kernel_rfl) (show Try.prog.cellsOf 26 = 3 by kernel_rfl) (by decide) (hval 4 32 v4 rfl rfl) h4
  obtain ⟨part, rfl, _, _, xpart⟩ := open_int Try.underlying5 (hval 5 5 v5 rfl rfl) h5
  have ypart := bounds_u8 xpart
  obtain ⟨more, rfl, _, _, xmore⟩ := open_int Try.underlying5 (hval 6 5 v6 rfl rfl) h6
  have ymore := bounds_u8 xmore
  clear hA0
  have hR := E2.calls_at (c := cfx) (args := [.agg [.raw (.string l_nm), .raw (.int .i64 l_z0), .raw (.int .i64 l_z1), .raw (.int .i64 l_z2), .slo 0 l_n, .raw (.int .i64 l_z3), .raw (.int .i64 l_z4), .raw (.int .i64 l_z5), .raw (.int .i64 l_z6), .raw (.int .i64 l_z7), .slo 1 l_k], .raw (.agg #[.int .i64 p0, .int .i64 p1]), .raw (.agg #[.int .i64 q0, .int .i64 q1]), .raw (.int .i64 r), .slo 2 others_m, .raw (.int .u8 part), .raw (.int .u8 more)]) (x := .bool true) (lawWays l_nm l_gs l_cs l_n l_k l_T l_U l_z0 l_z1 l_z2 l_z3 l_z4 l_z5 l_z6 l_z7 others_z others_m others_T p0 p1 q0 q1 r part more (Nat.le_of_eq l_hg.symm) (Nat.le_of_eq l_hk.symm) (by have := l_hnm; unfold maxLen at this; omega) (by omega) (by omega) (by omega)) rfl rfl [l_la, l_lb, others_l] W rfl (E2.rowsAt_cons (E2.mix_all _ _) l_ha (E2.rowsAt_cons (E2.ints_all _) l_hb (E2.rowsAt_cons (E2.ints_all _) others_ok (E2.rowsAt_nil)))) rfl
  refine Calls.mono hR fun e W' hw => ?_
  exact ⟨_, hw.1, K.law_post laidOut readable (by kernel_rfl) Try.underlying4 rfl hW' rfl hw.2⟩
theorem laid_met (os : Os) : laidMet Try.prog Rows.lawnWaysRow.laid ((laidWorld os).forCall (fun _ _ => 0) ⟨#[], #[.agg #[.string ⟨#[]⟩, .int .i64 0, .int .i64 0, .int .i64 0, .slice none 0 0, .int .i64 0, .int .i64 0, .int .i64 0, .int .i64 0, .int .i64 0, .slice none 0 0], .agg #[.int .i64 0, .int .i64 0], .agg #[.int .i64 0, .int .i64 0], .int .i64 0, .slice none 0 0, .int .u8 0, .int .u8 0], []⟩).memory :=
  laidMet_of_run' 8 (by kernel_rfl) (by kernel_rfl)
theorem reads (os : Os) {H : Type} (enc : TypeId × Value → H) : ∃ places, DataW.whole enc Try.prog ((laidWorld os).forCall (fun _ _ => 0) ⟨#[], #[.agg #[.string ⟨#[]⟩, .int .i64 0, .int .i64 0, .int .i64 0, .slice none 0 0, .int .i64 0, .int .i64 0, .int .i64 0, .int .i64 0, .int .i64 0, .slice none 0 0], .agg #[.int .i64 0, .int .i64 0], .agg #[.int .i64 0, .int .i64 0], .int .i64 0, .slice none 0 0, .int .u8 0, .int .u8 0], []⟩).memory Try.f7.params.toList Rows.lawnWaysSpec.vars false (#[.agg #[.string ⟨#[]⟩, .int .i64 0, .int .i64 0, .int .i64 0, .slice none 0 0, .int .i64 0, .int .i64 0, .int .i64 0, .int .i64 0, .int .i64 0, .slice none 0 0], .agg #[.int .i64 0, .int .i64 0], .agg #[.int .i64 0, .int .i64 0], .int .i64 0, .slice none 0 0, .int .u8 0, .int .u8 0] : Array Value).toList 8 = some ([.agg [.lit (.string []), .lit (.int .i64 0), .lit (.int .i64 0), .lit (.int .i64 0), .nil, .agg [.agg [.lit (.int .i64 0), .lit (.int .i64 0)], .lit (.int .i64 0)], .lit (.int .i64 0), .lit (.int .i64 0), .nil], .agg [.lit (.int .i64 0), .lit (.int .i64 0)], .agg [.lit (.int .i64 0), .lit (.int .i64 0)], .lit (.int .i64 0), .nil, .lit (.int .u8 0), .lit (.int .u8 0)], [], places) :=
  ⟨[], by kernel_rfl⟩
theorem lifted (os : Os) (started : os.Started) (H : Type) (enc : TypeId × Value → H) (F : Stop.Interp) :
    ReturnsInHanded {} Try.checked os 7 .any ((OpenSpec.ofChange Rows.lawnWaysSpec).preRow enc Try.prog Try.f7 Rows.lawnWaysRow.domain false Rows.lawnWaysRow.laid) (((OpenSpec.ofChange Rows.lawnWaysSpec).at F).post enc Try.prog Try.f7 false true false false) := by
  obtain ⟨places, hx⟩ := reads os enc
  refine returnsInHanded_of_row (C := Try.checked) (s := OpenSpec.ofChange Rows.lawnWaysSpec) own started (by kernel_rfl) Try.func7
    (witness_row_at (enc := enc) (C := Try.checked) false (laidWorld os) #[.agg #[.string ⟨#[]⟩, .int .i64 0, .int .i64 0, .int .i64 0, .slice none 0 0, .int .i64 0, .int .i64 0, .int .i64 0, .int .i64 0, .int .i64 0, .slice none 0 0], .agg #[.int .i64 0, .int .i64 0], .agg #[.int .i64 0, .int .i64 0], .int .i64 0, .slice none 0 0, .int .u8 0, .int .u8 0] rfl (by kernel_rfl) (by kernel_rfl) (by kernel_rfl)
      (OpenSpec.preRow_of_cond 8 hx (by kernel_rfl) (fun k hk => by cases hk) (by kernel_rfl) (laid_met os))) ?_
  intro W base args ds gs before hval hW _ _ _ hL _ _
  exact contract H enc W base args ds gs before hval hW
theorem said : Rows.LawnWaysSaid :=
  OpenClaim.holds_of_cond 7 Try.f7 rfl rfl rfl rfl rfl rfl rfl ⟨rfl, rfl, rfl, rfl, rfl⟩ rfl rfl rfl rfl rfl (by kernel_rfl) Try.func7 (by kernel_rfl)
    (of_decide_eq_true (by kernel_rfl)) (by unfold Func.isWrapper; first | (rw [if_pos (by decide +kernel)]; kernel_rfl) | (rw [if_neg (by decide +kernel)]; exact ⟨rfl, rfl⟩))
    (fun os started H enc _ F => by rw [OpenClaim.pre_eq_preRow]; exact lifted os started H enc F)
end lawnWays
end Go.Proofs.Ytmelbcmfahcffaa
end
