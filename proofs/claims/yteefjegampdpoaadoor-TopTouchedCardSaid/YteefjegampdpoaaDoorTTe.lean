/-
  Part of a claim: the reckoner and contracts.
-/
import Derived.Test.YteefjegampdpoaaDoorTTd
set_option linter.unusedVariables false
set_option linter.unusedSimpArgs false
set_option maxRecDepth 100000
section
namespace Go.Proofs.YteefjegampdpoaaDoor
open Go Go.RowKit Go.Proofs.YteefjegampdpoaaDoor.E2
theorem M.roll_take (xs ys : List Int) (n : Nat) (h : 6 * n ≤ ys.length) : M.roll xs (List.take (n * 6) ys) n = M.roll xs ys n := by
  refine tab_congr fun k hk => ?_
  unfold M.rollF
  split
  · rfl
  · have : k / 8 * 6 + (k % 8 - 2) < n * 6 := by omega
    simp [at', List.getD, List.getElem?_take, this]
theorem M.allB_take (xs ys : List Int) (n : Nat) (h : 6 * n ≤ ys.length) : M.allB xs (List.take (n * 6) ys) n = M.allB xs ys n := by
  rw [← M.allZ_roll, ← M.allZ_roll, M.roll_take xs ys n h]
theorem pse_loop (xs ys : List Int) (n : Nat) (TA TB : Nat) (rb dg : Int) (hn : n ≤ 8) (hx : M.bncB rb dg = true) (s : M.St) (hs : M.InvO n 0 s) (hg : M.allB xs s.os n = true) :
    (∃ s', M.outr xs rb dg n s = some s' ∧ M.InvO n n s' ∧ Runs cfx 0 11 none (.loop (loopOf cfx.P 81 0)) (pse_T xs ys n TA TB rb dg 0 (M.roll xs s.os n) s.ps s.m) (pse_H xs ys n TA TB rb dg 0 (M.roll xs s.os n) s.ps s.m) (.exit 0) (psc_T1 xs ys n TA TB rb dg n (M.roll xs s'.os n) s'.ps s'.m) (psc_H1 xs ys n TA TB rb dg n (M.roll xs s'.os n) s'.ps s'.m)) ∨
    (M.outr xs rb dg n s = none ∧ ∃ (i k : Nat) (s' s2 : M.St), M.beZ (M.roll xs s2.os n) rb dg i k = 4 ∧ Runs cfx 0 11 none (.loop (loopOf cfx.P 81 0)) (pse_T xs ys n TA TB rb dg 0 (M.roll xs s.os n) s.ps s.m) (pse_H xs ys n TA TB rb dg 0 (M.roll xs s.os n) s.ps s.m) (.ret) (psb_T1 xs ys n TA TB rb dg i (M.roll xs s'.os n) s'.ps s'.m (M.roll xs s2.os n) s2.ps s2.m k) (psb_H1 xs ys n TA TB rb dg i (M.roll xs s'.os n) s'.ps s'.m (M.roll xs s2.os n) s2.ps s2.m k)) := by
  have key := upto_optB (c := cfx) (lim := 0) (n0 := 11) (x := loopOf cfx.P 81 0) noRnd (fun i s => M.inn xs rb dg n i s) (fun i s => pse_T xs ys n TA TB rb dg (i : Nat) (M.roll xs s.os n) s.ps s.m) (fun i s => pse_H xs ys n TA TB rb dg (i : Nat) (M.roll xs s.os n) s.ps s.m) (fun i s => M.InvO n i s ∧ M.allB xs s.os n = true) n (e := .exit 0) (e1 := .ret)
    (fun s => psc_T1 xs ys n TA TB rb dg n (M.roll xs s.os n) s.ps s.m) (fun s => psc_H1 xs ys n TA TB rb dg n (M.roll xs s.os n) s.ps s.m) (fun t h => ∃ (i k : Nat) (s' s2 : M.St), M.beZ (M.roll xs s2.os n) rb dg i k = 4 ∧ t = psb_T1 xs ys n TA TB rb dg i (M.roll xs s'.os n) s'.ps s'.m (M.roll xs s2.os n) s2.ps s2.m k ∧ h = psb_H1 xs ys n TA TB rb dg i (M.roll xs s'.os n) s'.ps s'.m (M.roll xs s2.os n) s2.ps s2.m k) (by simp) (by simp) 0
    (fun i s s' _ hi hv hf => by
      rcases psi_loop xs ys n TA TB rb dg hn hx i hi s hv.1 hv.2 with ⟨s2, q1, q2, q3⟩ | ⟨q1, _⟩
      · obtain rfl : s2 = s' := Option.some.inj (q1.symm.trans hf)
        exact ⟨q2, psa_1 xs ys n TA TB rb dg hn i (M.roll xs s.os n) s.ps s.m (by omega) (by omega) (M.roll xs s2.os n) s2.ps s2.m q3⟩
      · rw [q1] at hf; cases hf)
    (fun i s _ hi hv hf => by
      rcases psi_loop xs ys n TA TB rb dg hn hx i hi s hv.1 hv.2 with ⟨s2, q1, q2, q3⟩ | ⟨q1, k, s2, q2, q3⟩
      · rw [q1] at hf; cases hf
      · exact ⟨_, _, ⟨i, k, s, s2, q2, rfl, rfl⟩, psb_1 xs ys n TA TB rb dg hn i (M.roll xs s.os n) s.ps s.m (by omega) (by omega) (M.roll xs s2.os n) s2.ps s2.m k q3⟩)
    (fun s hv => psc_1 xs ys n TA TB rb dg hn n (M.roll xs s.os n) s.ps s.m (by omega) (by omega))
    n 0 s (Nat.le_refl _) (by omega) ⟨hs, hg⟩
  rcases key with ⟨s', q1, q2, q3⟩ | ⟨q1, t, h, ⟨i, k, s', s2, e1, rfl, rfl⟩, q3⟩
  · exact .inl ⟨s', q1, q2.1, q3⟩
  · exact .inr ⟨q1, i, k, s', s2, e1, q3⟩
theorem Settle_ok (xs ys : List Int) (n : Nat) (TA TB : Nat) (rb dg : Int) (hn : n ≤ 8) (hl : Meets cfx 0 44 [.slo 0 n, .slo 1 n] [some (.cells (ints xs) TA .ro), some (.cells (ints ys) TB .ro)] (.tup [.slo 2 n, .raw (.int .i64 0)]) ([some (.cells (ints xs) TA .ro), some (.cells (ints ys) TB .ro), some (.cells (ints (M.roll xs ys n)) 124 (.row 8))])) (hb : M.err (M.bncB rb dg) = 0) (s' : M.St) (ho : s'.os.length = n * 6) (hR : Runs cfx 0 11 none (.loop (loopOf cfx.P 81 0)) (pse_T xs ys n TA TB rb dg 0 (M.roll xs ys n) [] 0) (pse_H xs ys n TA TB rb dg 0 (M.roll xs ys n) [] 0) (.exit 0) (psc_T1 xs ys n TA TB rb dg n (M.roll xs s'.os n) s'.ps s'.m) (psc_H1 xs ys n TA TB rb dg n (M.roll xs s'.os n) s'.ps s'.m))  : Meets cfx 0 15 [.slo 0 n, .slo 1 n, .raw (.agg #[.int .i64 rb, .int .i64 dg])] [some (.cells (ints xs) TA .ro), some (.cells (ints ys) TB .ro)] (V.tup [.slo 2 n, .slo 3 (M.St.m s'), iV 0]) [some (.cells (ints xs) TA .ro), some (.cells (ints ys) TB .ro), some (.cells (ints (M.St.os s')) 62 (.row 6)), some (.cells (ints (M.St.ps s')) 71 (.row 2))] := by
  refine Meets.post (meets_ev cfx_mixed cfx_call (Nat.zero_le _) (Nat.le_of_ble_eq_true rfl) (n := 40) (ans := [Ans.go, Ans.reth (V.tup [.slo 6 n, iV 0]) [some (.cells (ints xs) TA .ro), some (.cells (ints ys) TB .ro), some (.cells [iV rb, iV dg] 56 .rw), some (.cells [V.raw (Value.slice none 0 0)] 58 .rw), some (.cells [V.raw (Value.slice none 0 0)] 67 .rw), some (.cells [iV 0] 32 .rw), some (.cells (ints (M.roll xs ys n)) 124 (.row 8))], Ans.br false, Ans.ret (iV 0), Ans.br false, Ans.go, Ans.go, Ans.loop (Ex.exit 0) [V.yld 10, .ptr 9 0, .any 2, .any 3, .any 4, iV (↑n : Int), iV (↑n : Int), .any 7, .any 8, .any 9, .any 10, .any 11, .any 12, .any 13, .any 14, .any 15, .any 16, .any 17, .any 18, .any 19, .any 20, .any 21] [some (.cells (ints xs) TA .ro), some (.cells (ints ys) TB .ro), some (.cells [iV rb, iV dg] 56 .rw), some (.cells [V.raw (Value.slice none 0 0)] 58 .rw), some (.cells [V.raw (Value.slice none 0 0)] 67 .rw), some (.cells [iV 0] 32 .rw), some (.cells (ints (M.roll xs (M.St.os s') n)) 124 (.row 8)), some (.cells [.slo 6 n] 116 .rw), some (.cells [.slo 11 (M.St.m s')] 67 .rw), some (.cells [iV (↑n : Int)] 3 .rw), some (Blk.rcd { t := [.slo 0 n, .slo 1 n, V.raw (.agg { toList := [.int .i64 rb, .int .i64 dg] }), uV, uV, .ptr 2 0, .ptr 3 0, .ptr 4 0, .ptr 5 0, .ptr 7 0, iV 0, iV 0, .ptr 8 0, uV, uV, uV, uV, uV, V.tup [.slo 6 n, iV 0], .slo 0 n, .slo 1 n, V.tup [.slo 6 n, iV 0], .slo 6 n, iV 0, iV 0, V.raw (.bool false), uV, V.raw (.agg { toList := [.int .i64 rb, .int .i64 dg] }), iV 0, iV 0, V.raw (.bool false), uV, .slo 6 n, iV (↑n : Int), V.fn (Fn.func 81) [] [.ptr 9 0], uV, uV, uV, uV, uV, uV, uV, uV, uV, uV, uV, uV, uV, uV, uV, uV, uV, uV, uV, uV, uV, uV, uV, uV, uV, uV, uV, uV, uV, uV, uV, uV, uV, uV, uV, uV, uV, uV, uV], f := 15, i := 0, st := RSt.ready }), some (.cells (ints (M.St.ps s')) 71 (.row 2))], Ans.olds [(5, 10), (4, 8), (3, 6), (1, 25)], Ans.reth (.slo 12 n) [some (.cells (ints xs) TA .ro), some (.cells (ints ys) TB .ro), some (.cells [iV rb, iV dg] 56 .ro), some (.cells [V.raw (Value.slice none 0 0)] 58 .ro), some (.cells [V.raw (Value.slice none 0 0)] 67 .ro), some (.cells [iV 0] 32 .ro), some (.cells (ints (M.roll xs (M.St.os s') n)) 124 .ro), some (.cells [.slo 6 n] 116 .ro), some (.cells [.slo 11 (M.St.m s')] 67 .ro), some (.cells [iV (↑n : Int)] 3 .ro), none, some (.cells (ints (M.St.ps s')) 71 .ro), some (.cells (ints (M.St.os s')) 62 (.row 6))]]) (v := V.tup [.slo 12 n, .slo 11 (M.St.m s'), iV 0]) (h' := [some (.cells (ints xs) TA .ro), some (.cells (ints ys) TB .ro), some (.cells [iV rb, iV dg] 56 .rw), some (.cells [.slo 12 n] 58 .rw), some (.cells [.slo 11 (M.St.m s')] 67 .rw), some (.cells [iV 0] 32 .rw), some (.cells (ints (M.roll xs (M.St.os s') n)) 124 (.row 8)), some (.cells [.slo 6 n] 116 .rw), some (.cells [.slo 11 (M.St.m s')] 67 .rw), some (.cells [iV (↑n : Int)] 3 .rw), none, some (.cells (ints (M.St.ps s')) 71 (.row 2)), some (.cells (ints (M.St.os s')) 62 (.row 6))]) (cons := [(Meets cfx 0 44 [.slo 0 n, .slo 1 n] [some (.cells (ints xs) TA .ro), some (.cells (ints ys) TB .ro), some (.cells [iV rb, iV dg] 56 .rw), some (.cells [V.raw (Value.slice none 0 0)] 58 .rw), some (.cells [V.raw (Value.slice none 0 0)] 67 .rw), some (.cells [iV 0] 32 .rw)] (V.tup [.slo 6 n, iV 0]) [some (.cells (ints xs) TA .ro), some (.cells (ints ys) TB .ro), some (.cells [iV rb, iV dg] 56 .rw), some (.cells [V.raw (Value.slice none 0 0)] 58 .rw), some (.cells [V.raw (Value.slice none 0 0)] 67 .rw), some (.cells [iV 0] 32 .rw), some (.cells (ints (M.roll xs ys n)) 124 (.row 8))]), (false = false), (Ret cfx 45 [V.raw (.agg { toList := [.int .i64 rb, .int .i64 dg] })] (iV 0)), (false = false), (Runs cfx 0 11 none (.loop (loopOf cfx.P 81 0)) [V.yld 10, .ptr 9 0, uV, uV, uV, iV (↑n : Int), iV 0, uV, uV, uV, uV, uV, uV, uV, uV, uV, uV, uV, uV, uV, uV, uV] [some (.cells (ints xs) TA .ro), some (.cells (ints ys) TB .ro), some (.cells [iV rb, iV dg] 56 .rw), some (.cells [V.raw (Value.slice none 0 0)] 58 .rw), some (.cells [V.raw (Value.slice none 0 0)] 67 .rw), some (.cells [iV 0] 32 .rw), some (.cells (ints (M.roll xs ys n)) 124 (.row 8)), some (.cells [.slo 6 n] 116 .rw), some (.cells [V.raw (Value.slice none 0 0)] 67 .rw), some (.cells [iV (↑n : Int)] 3 .rw), some (Blk.rcd { t := [.slo 0 n, .slo 1 n, V.raw (.agg { toList := [.int .i64 rb, .int .i64 dg] }), uV, uV, .ptr 2 0, .ptr 3 0, .ptr 4 0, .ptr 5 0, .ptr 7 0, iV 0, iV 0, .ptr 8 0, uV, uV, uV, uV, uV, V.tup [.slo 6 n, iV 0], .slo 0 n, .slo 1 n, V.tup [.slo 6 n, iV 0], .slo 6 n, iV 0, iV 0, V.raw (.bool false), uV, V.raw (.agg { toList := [.int .i64 rb, .int .i64 dg] }), iV 0, iV 0, V.raw (.bool false), uV, .slo 6 n, iV (↑n : Int), V.fn (Fn.func 81) [] [.ptr 9 0], uV, uV, uV, uV, uV, uV, uV, uV, uV, uV, uV, uV, uV, uV, uV, uV, uV, uV, uV, uV, uV, uV, uV, uV, uV, uV, uV, uV, uV, uV, uV, uV, uV, uV, uV, uV, uV, uV, uV], f := 15, i := 0, st := RSt.ready })] (Ex.exit 0) [V.yld 10, .ptr 9 0, .any 2, .any 3, .any 4, iV (↑n : Int), iV (↑n : Int), .any 7, .any 8, .any 9, .any 10, .any 11, .any 12, .any 13, .any 14, .any 15, .any 16, .any 17, .any 18, .any 19, .any 20, .any 21] [some (.cells (ints xs) TA .ro), some (.cells (ints ys) TB .ro), some (.cells [iV rb, iV dg] 56 .rw), some (.cells [V.raw (Value.slice none 0 0)] 58 .rw), some (.cells [V.raw (Value.slice none 0 0)] 67 .rw), some (.cells [iV 0] 32 .rw), some (.cells (ints (M.roll xs (M.St.os s') n)) 124 (.row 8)), some (.cells [.slo 6 n] 116 .rw), some (.cells [.slo 11 (M.St.m s')] 67 .rw), some (.cells [iV (↑n : Int)] 3 .rw), some (Blk.rcd { t := [.slo 0 n, .slo 1 n, V.raw (.agg { toList := [.int .i64 rb, .int .i64 dg] }), uV, uV, .ptr 2 0, .ptr 3 0, .ptr 4 0, .ptr 5 0, .ptr 7 0, iV 0, iV 0, .ptr 8 0, uV, uV, uV, uV, uV, V.tup [.slo 6 n, iV 0], .slo 0 n, .slo 1 n, V.tup [.slo 6 n, iV 0], .slo 6 n, iV 0, iV 0, V.raw (.bool false), uV, V.raw (.agg { toList := [.int .i64 rb, .int .i64 dg] }), iV 0, iV 0, V.raw (.bool false), uV, .slo 6 n, iV (↑n : Int), V.fn (Fn.func 81) [] [.ptr 9 0], uV, uV, uV, uV, uV, uV, uV, uV, uV, uV, uV, uV, uV, uV, uV, uV, uV, uV, uV, uV, uV, uV, uV, uV, uV, uV, uV, uV, uV, uV, uV, uV, uV, uV, uV, uV, uV, uV, uV], f := 15, i := 0, st := RSt.ready }), some (.cells (ints (M.St.ps s')) 71 (.row 2))]), (Meets cfx 0 48 [.slo 6 n] [some (.cells (ints xs) TA .ro), some (.cells (ints ys) TB .ro), some (.cells [iV rb, iV dg] 56 .ro), some (.cells [V.raw (Value.slice none 0 0)] 58 .ro), some (.cells [V.raw (Value.slice none 0 0)] 67 .ro), some (.cells [iV 0] 32 .ro), some (.cells (ints (M.roll xs (M.St.os s') n)) 124 .ro), some (.cells [.slo 6 n] 116 .ro), some (.cells [.slo 11 (M.St.m s')] 67 .ro), some (.cells [iV (↑n : Int)] 3 .ro), none, some (.cells (ints (M.St.ps s')) 71 .ro)] (.slo 12 n) [some (.cells (ints xs) TA .ro), some (.cells (ints ys) TB .ro), some (.cells [iV rb, iV dg] 56 .ro), some (.cells [V.raw (Value.slice none 0 0)] 58 .ro), some (.cells [V.raw (Value.slice none 0 0)] 67 .ro), some (.cells [iV 0] 32 .ro), some (.cells (ints (M.roll xs (M.St.os s') n)) 124 .ro), some (.cells [.slo 6 n] 116 .ro), some (.cells [.slo 11 (M.St.m s')] 67 .ro), some (.cells [iV (↑n : Int)] 3 .ro), none, some (.cells (ints (M.St.ps s')) 71 .ro), some (.cells (ints (M.St.os s')) 62 (.row 6))]), ((ints (M.St.os s')).all isRawV = true)]) (by kernel_rfl)
    ⟨(by exact below2 (lim := 0) rfl rfl 0 1 (N := [some (.cells (ints (M.roll xs ys n)) 124 (.row 8))]) hl (ints_all _) (ints_all _) rfl (new_row _ _ _) rfl rfl (Nat.zero_le _)), rfl, (by have := up1 (checkBounce rb dg); rw [hb] at this; exact this), rfl, (by
      refine Runs.pre (fun b e => by cases e) (fun RT RH => ?_) (hR)
      exact reshape2 (lim := 0) 11 (t := [V.yld 10, .ptr 9 0, uV, uV, uV, iV (↑n : Int), iV 0, uV, uV, uV, uV, uV, uV, uV, uV, uV, uV, uV, uV, uV, uV, uV]) (h := [some (.cells (ints xs) TA .ro), some (.cells (ints ys) TB .ro), some (.cells [iV rb, iV dg] 56 .rw), some (.cells [V.raw (Value.slice none 0 0)] 58 .rw), some (.cells [V.raw (Value.slice none 0 0)] 67 .rw), some (.cells [iV 0] 32 .rw), some (.cells (ints (M.roll xs ys n)) 124 (.row 8)), some (.cells [.slo 6 n] 116 .rw), some (.cells [V.raw (Value.slice none 0 0)] 67 .rw), some (.cells [iV (↑n : Int)] 3 .rw), some (Blk.rcd { t := [.slo 0 n, .slo 1 n, V.raw (.agg { toList := [.int .i64 rb, .int .i64 dg] }), uV, uV, .ptr 2 0, .ptr 3 0, .ptr 4 0, .ptr 5 0, .ptr 7 0, iV 0, iV 0, .ptr 8 0, uV, uV, uV, uV, uV, V.tup [.slo 6 n, iV 0], .slo 0 n, .slo 1 n, V.tup [.slo 6 n, iV 0], .slo 6 n, iV 0, iV 0, V.raw (.bool false), uV, V.raw (.agg { toList := [.int .i64 rb, .int .i64 dg] }), iV 0, iV 0, V.raw (.bool false), uV, .slo 6 n, iV (↑n : Int), V.fn (Fn.func 81) [] [.ptr 9 0], uV, uV, uV, uV, uV, uV, uV, uV, uV, uV, uV, uV, uV, uV, uV, uV, uV, uV, uV, uV, uV, uV, uV, uV, uV, uV, uV, uV, uV, uV, uV, uV, uV, uV, uV, uV, uV, uV, uV], f := 15, i := 0, st := RSt.ready })]) cfx_G rfl [none] (by kernel_rfl) (by kernel_rfl) (by repeat first | exact ents_nil | refine ents_none ?_ | refine ents_raw (ints_all _) rfl rfl ?_ | refine ents_raw (bools_all _) rfl rfl ?_ | refine ents_raw (mix_all _ _) rfl rfl ?_ | refine ents_say rfl rfl rfl rfl ?_ | refine ents_nilC rfl rfl ?_) RT RH), (by have hm := mots_all (M.roll xs s'.os n) n 124 (by rw [M.roll_len]; omega) hn; rw [M.mots_roll xs s'.os n ho] at hm; exact below1 (lim := 0) rfl rfl 6 (N := [some (.cells (ints s'.os) 62 (.row 6))]) hm (ints_all _) rfl (new_row _ _ _) rfl (Nat.zero_le _)), (by first | exact ints_all _ | rfl), trivial⟩) (by kernel_rfl) (fun RT RH => reshape2 (lim := 0) 2 cfx_G rfl [some 12, some 11] (by kernel_rfl) (by kernel_rfl) (by exact (ents_raw (ints_all _) rfl rfl (ents_raw (ints_all _) rfl rfl (ents_raw (ints_all _) rfl rfl (ents_raw (ints_all _) rfl rfl (ents_nil)))))) RT RH)
theorem Settle_over (xs ys : List Int) (n : Nat) (TA TB : Nat) (rb dg : Int) (hn : n ≤ 8) (hl : Meets cfx 0 44 [.slo 0 n, .slo 1 n] [some (.cells (ints xs) TA .ro), some (.cells (ints ys) TB .ro)] (.tup [.slo 2 n, .raw (.int .i64 0)]) ([some (.cells (ints xs) TA .ro), some (.cells (ints ys) TB .ro), some (.cells (ints (M.roll xs ys n)) 124 (.row 8))])) (hb : M.err (M.bncB rb dg) = 0) (i k : Nat) (s' s2 : M.St) (hR : Runs cfx 0 11 none (.loop (loopOf cfx.P 81 0)) (pse_T xs ys n TA TB rb dg 0 (M.roll xs ys n) [] 0) (pse_H xs ys n TA TB rb dg 0 (M.roll xs ys n) [] 0) (.ret) (psb_T1 xs ys n TA TB rb dg i (M.roll xs s'.os n) s'.ps s'.m (M.roll xs s2.os n) s2.ps s2.m k) (psb_H1 xs ys n TA TB rb dg i (M.roll xs s'.os n) s'.ps s'.m (M.roll xs s2.os n) s2.ps s2.m k))  : Meets cfx 0 15 [.slo 0 n, .slo 1 n, .raw (.agg #[.int .i64 rb, .int .i64 dg])] [some (.cells (ints xs) TA .ro), some (.cells (ints ys) TB .ro)] (V.raw (.tuple { toList := [Value.slice none 0 0, Value.slice none 0 0, .int .i64 (M.beZ (M.roll xs (M.St.os s2) n) rb dg i k)] })) [some (.cells (ints xs) TA .ro), some (.cells (ints ys) TB .ro)] := by
  refine Meets.post (meets_ev cfx_mixed cfx_call (Nat.zero_le _) (Nat.le_of_ble_eq_true rfl) (n := 40) (ans := [Ans.go, Ans.reth (V.tup [.slo 6 n, iV 0]) [some (.cells (ints xs) TA .ro), some (.cells (ints ys) TB .ro), some (.cells [iV rb, iV dg] 56 .rw), some (.cells [V.raw (Value.slice none 0 0)] 58 .rw), some (.cells [V.raw (Value.slice none 0 0)] 67 .rw), some (.cells [iV 0] 32 .rw), some (.cells (ints (M.roll xs ys n)) 124 (.row 8))], Ans.br false, Ans.ret (iV 0), Ans.br false, Ans.go, Ans.go, Ans.loop Ex.ret [V.yld 10, .ptr 9 0, .any 2, .any 3, .any 4, iV (↑n : Int), iV (↑i : Int), .any 7, .any 8, .any 9, .any 10, .any 11, .any 12, .any 13, .any 14, .any 15, .any 16, .any 17, .any 18, .any 19, .any 20, .any 21] [some (.cells (ints xs) TA .ro), some (.cells (ints ys) TB .ro), some (.cells [iV rb, iV dg] 56 .rw), some (.cells [V.raw (Value.slice none 0 0)] 58 .rw), some (.cells [V.raw (Value.slice none 0 0)] 67 .rw), some (.cells [iV (M.beZ (M.roll xs (M.St.os s2) n) rb dg i k)] 32 .rw), some (.cells (ints (M.roll xs (M.St.os s2) n)) 124 (.row 8)), some (.cells [.slo 6 n] 116 .rw), some (.cells [.slo 11 (M.St.m s2)] 67 .rw), some (.cells [iV (↑n : Int)] 3 .rw), some (Blk.rcd { t := [.slo 0 n, .slo 1 n, V.raw (.agg { toList := [.int .i64 rb, .int .i64 dg] }), uV, uV, .ptr 2 0, .ptr 3 0, .ptr 4 0, .ptr 5 0, .ptr 7 0, iV 0, iV 0, .ptr 8 0, uV, uV, uV, uV, uV, V.tup [.slo 6 n, iV 0], .slo 0 n, .slo 1 n, V.tup [.slo 6 n, iV 0], .slo 6 n, iV 0, iV 0, V.raw (.bool false), uV, V.raw (.agg { toList := [.int .i64 rb, .int .i64 dg] }), iV 0, iV 0, V.raw (.bool false), uV, .slo 6 n, iV (↑n : Int), V.fn (Fn.func 81) [] [.ptr 9 0], uV, uV, uV, uV, uV, uV, uV, uV, uV, uV, uV, uV, uV, uV, uV, uV, uV, uV, uV, uV, uV, uV, uV, uV, uV, uV, uV, uV, uV, uV, uV, uV, uV, uV, uV, uV, uV, uV, uV], f := 15, i := 0, st := RSt.done Ex.ret }), some (.cells (ints (M.St.ps s2)) 71 (.row 2))]]) (v := V.raw (.tuple { toList := [Value.slice none 0 0, Value.slice none 0 0, .int .i64 (M.beZ (M.roll xs (M.St.os s2) n) rb dg i k)] })) (h' := [some (.cells (ints xs) TA .ro), some (.cells (ints ys) TB .ro), some (.cells [iV rb, iV dg] 56 .rw), some (.cells [V.raw (Value.slice none 0 0)] 58 .rw), some (.cells [V.raw (Value.slice none 0 0)] 67 .rw), some (.cells [iV (M.beZ (M.roll xs (M.St.os s2) n) rb dg i k)] 32 .rw), some (.cells (ints (M.roll xs (M.St.os s2) n)) 124 (.row 8)), some (.cells [.slo 6 n] 116 .rw), some (.cells [.slo 11 (M.St.m s2)] 67 .rw), some (.cells [iV (↑n : Int)] 3 .rw), none, some (.cells (ints (M.St.ps s2)) 71 (.row 2))]) (cons := [(Meets cfx 0 44 [.slo 0 n, .slo 1 n] [some (.cells (ints xs) TA .ro), some (.cells (ints ys) TB .ro), some (.cells [iV rb, iV dg] 56 .rw), some (.cells [V.raw (Value.slice none 0 0)] 58 .rw), some (.cells [V.raw (Value.slice none 0 0)] 67 .rw), some (.cells [iV 0] 32 .rw)] (V.tup [.slo 6 n, iV 0]) [some (.cells (ints xs) TA .ro), some (.cells (ints ys) TB .ro), some (.cells [iV rb, iV dg] 56 .rw), some (.cells [V.raw (Value.slice none 0 0)] 58 .rw), some (.cells [V.raw (Value.slice none 0 0)] 67 .rw), some (.cells [iV 0] 32 .rw), some (.cells (ints (M.roll xs ys n)) 124 (.row 8))]), (false = false), (Ret cfx 45 [V.raw (.agg { toList := [.int .i64 rb, .int .i64 dg] })] (iV 0)), (false = false), (Runs cfx 0 11 none (.loop (loopOf cfx.P 81 0)) [V.yld 10, .ptr 9 0, uV, uV, uV, iV (↑n : Int), iV 0, uV, uV, uV, uV, uV, uV, uV, uV, uV, uV, uV, uV, uV, uV, uV] [some (.cells (ints xs) TA .ro), some (.cells (ints ys) TB .ro), some (.cells [iV rb, iV dg] 56 .rw), some (.cells [V.raw (Value.slice none 0 0)] 58 .rw), some (.cells [V.raw (Value.slice none 0 0)] 67 .rw), some (.cells [iV 0] 32 .rw), some (.cells (ints (M.roll xs ys n)) 124 (.row 8)), some (.cells [.slo 6 n] 116 .rw), some (.cells [V.raw (Value.slice none 0 0)] 67 .rw), some (.cells [iV (↑n : Int)] 3 .rw), some (Blk.rcd { t := [.slo 0 n, .slo 1 n, V.raw (.agg { toList := [.int .i64 rb, .int .i64 dg] }), uV, uV, .ptr 2 0, .ptr 3 0, .ptr 4 0, .ptr 5 0, .ptr 7 0, iV 0, iV 0, .ptr 8 0, uV, uV, uV, uV, uV, V.tup [.slo 6 n, iV 0], .slo 0 n, .slo 1 n, V.tup [.slo 6 n, iV 0], .slo 6 n, iV 0, iV 0, V.raw (.bool false), uV, V.raw (.agg { toList := [.int .i64 rb, .int .i64 dg] }), iV 0, iV 0, V.raw (.bool false), uV, .slo 6 n, iV (↑n : Int), V.fn (Fn.func 81) [] [.ptr 9 0], uV, uV, uV, uV, uV, uV, uV, uV, uV, uV, uV, uV, uV, uV, uV, uV, uV, uV, uV, uV, uV, uV, uV, uV, uV, uV, uV, uV, uV, uV, uV, uV, uV, uV, uV, uV, uV, uV, uV], f := 15, i := 0, st := RSt.ready })] (Ex.ret) [V.yld 10, .ptr 9 0, .any 2, .any 3, .any 4, iV (↑n : Int), iV (↑i : Int), .any 7, .any 8, .any 9, .any 10, .any 11, .any 12, .any 13, .any 14, .any 15, .any 16, .any 17, .any 18, .any 19, .any 20, .any 21] [some (.cells (ints xs) TA .ro), some (.cells (ints ys) TB .ro), some (.cells [iV rb, iV dg] 56 .rw), some (.cells [V.raw (Value.slice none 0 0)] 58 .rw), some (.cells [V.raw (Value.slice none 0 0)] 67 .rw), some (.cells [iV (M.beZ (M.roll xs (M.St.os s2) n) rb dg i k)] 32 .rw), some (.cells (ints (M.roll xs (M.St.os s2) n)) 124 (.row 8)), some (.cells [.slo 6 n] 116 .rw), some (.cells [.slo 11 (M.St.m s2)] 67 .rw), some (.cells [iV (↑n : Int)] 3 .rw), some (Blk.rcd { t := [.slo 0 n, .slo 1 n, V.raw (.agg { toList := [.int .i64 rb, .int .i64 dg] }), uV, uV, .ptr 2 0, .ptr 3 0, .ptr 4 0, .ptr 5 0, .ptr 7 0, iV 0, iV 0, .ptr 8 0, uV, uV, uV, uV, uV, V.tup [.slo 6 n, iV 0], .slo 0 n, .slo 1 n, V.tup [.slo 6 n, iV 0], .slo 6 n, iV 0, iV 0, V.raw (.bool false), uV, V.raw (.agg { toList := [.int .i64 rb, .int .i64 dg] }), iV 0, iV 0, V.raw (.bool false), uV, .slo 6 n, iV (↑n : Int), V.fn (Fn.func 81) [] [.ptr 9 0], uV, uV, uV, uV, uV, uV, uV, uV, uV, uV, uV, uV, uV, uV, uV, uV, uV, uV, uV, uV, uV, uV, uV, uV, uV, uV, uV, uV, uV, uV, uV, uV, uV, uV, uV, uV, uV, uV, uV], f := 15, i := 0, st := RSt.done Ex.ret }), some (.cells (ints (M.St.ps s2)) 71 (.row 2))])]) (by kernel_rfl)
    ⟨(by exact below2 (lim := 0) rfl rfl 0 1 (N := [some (.cells (ints (M.roll xs ys n)) 124 (.row 8))]) hl (ints_all _) (ints_all _) rfl (new_row _ _ _) rfl rfl (Nat.zero_le _)), rfl, (by have := up1 (checkBounce rb dg); rw [hb] at this; exact this), rfl, (by
      refine Runs.pre (fun b e => by cases e) (fun RT RH => ?_) (hR)
      exact reshape2 (lim := 0) 11 (t := [V.yld 10, .ptr 9 0, uV, uV, uV, iV (↑n : Int), iV 0, uV, uV, uV, uV, uV, uV, uV, uV, uV, uV, uV, uV, uV, uV, uV]) (h := [some (.cells (ints xs) TA .ro), some (.cells (ints ys) TB .ro), some (.cells [iV rb, iV dg] 56 .rw), some (.cells [V.raw (Value.slice none 0 0)] 58 .rw), some (.cells [V.raw (Value.slice none 0 0)] 67 .rw), some (.cells [iV 0] 32 .rw), some (.cells (ints (M.roll xs ys n)) 124 (.row 8)), some (.cells [.slo 6 n] 116 .rw), some (.cells [V.raw (Value.slice none 0 0)] 67 .rw), some (.cells [iV (↑n : Int)] 3 .rw), some (Blk.rcd { t := [.slo 0 n, .slo 1 n, V.raw (.agg { toList := [.int .i64 rb, .int .i64 dg] }), uV, uV, .ptr 2 0, .ptr 3 0, .ptr 4 0, .ptr 5 0, .ptr 7 0, iV 0, iV 0, .ptr 8 0, uV, uV, uV, uV, uV, V.tup [.slo 6 n, iV 0], .slo 0 n, .slo 1 n, V.tup [.slo 6 n, iV 0], .slo 6 n, iV 0, iV 0, V.raw (.bool false), uV, V.raw (.agg { toList := [.int .i64 rb, .int .i64 dg] }), iV 0, iV 0, V.raw (.bool false), uV, .slo 6 n, iV (↑n : Int), V.fn (Fn.func 81) [] [.ptr 9 0], uV, uV, uV, uV, uV, uV, uV, uV, uV, uV, uV, uV, uV, uV, uV, uV, uV, uV, uV, uV, uV, uV, uV, uV, uV, uV, uV, uV, uV, uV, uV, uV, uV, uV, uV, uV, uV, uV, uV], f := 15, i := 0, st := RSt.ready })]) cfx_G rfl [none] (by kernel_rfl) (by kernel_rfl) (by repeat first | exact ents_nil | refine ents_none ?_ | refine ents_raw (ints_all _) rfl rfl ?_ | refine ents_raw (bools_all _) rfl rfl ?_ | refine ents_raw (mix_all _ _) rfl rfl ?_ | refine ents_say rfl rfl rfl rfl ?_ | refine ents_nilC rfl rfl ?_) RT RH), trivial⟩) (by kernel_rfl) (fun RT RH => reshape2 (lim := 0) 2 cfx_G rfl [] (by kernel_rfl) (by kernel_rfl) (by exact (ents_raw (ints_all _) rfl rfl (ents_raw (ints_all _) rfl rfl (ents_nil)))) RT RH)
theorem Settle_bnc (xs ys : List Int) (n : Nat) (TA TB : Nat) (rb dg : Int) (hl : Meets cfx 0 44 [.slo 0 n, .slo 1 n] [some (.cells (ints xs) TA .ro), some (.cells (ints ys) TB .ro)] (.tup [.slo 2 n, .raw (.int .i64 0)]) ([some (.cells (ints xs) TA .ro), some (.cells (ints ys) TB .ro), some (.cells (ints (M.roll xs ys n)) 124 (.row 8))])) (hb : ¬ M.err (M.bncB rb dg) = 0)  : Meets cfx 0 15 [.slo 0 n, .slo 1 n, .raw (.agg #[.int .i64 rb, .int .i64 dg])] [some (.cells (ints xs) TA .ro), some (.cells (ints ys) TB .ro)] (V.raw (.tuple { toList := [Value.slice none 0 0, Value.slice none 0 0, .int .i64 (M.err (M.bncB rb dg))] })) [some (.cells (ints xs) TA .ro), some (.cells (ints ys) TB .ro)] := by
  refine Meets.post (meets_ev cfx_mixed cfx_call (Nat.zero_le _) (Nat.le_of_ble_eq_true rfl) (n := 40) (ans := [Ans.go, Ans.reth (V.tup [.slo 6 n, iV 0]) [some (.cells (ints xs) TA .ro), some (.cells (ints ys) TB .ro), some (.cells [iV rb, iV dg] 56 .rw), some (.cells [V.raw (Value.slice none 0 0)] 58 .rw), some (.cells [V.raw (Value.slice none 0 0)] 67 .rw), some (.cells [iV 0] 32 .rw), some (.cells (ints (M.roll xs ys n)) 124 (.row 8))], Ans.br false, Ans.ret (iV (M.err (M.bncB rb dg))), Ans.br true]) (v := V.raw (.tuple { toList := [Value.slice none 0 0, Value.slice none 0 0, .int .i64 (M.err (M.bncB rb dg))] })) (h' := [some (.cells (ints xs) TA .ro), some (.cells (ints ys) TB .ro), some (.cells [iV rb, iV dg] 56 .rw), some (.cells [V.raw (Value.slice none 0 0)] 58 .rw), some (.cells [V.raw (Value.slice none 0 0)] 67 .rw), some (.cells [iV (M.err (M.bncB rb dg))] 32 .rw), some (.cells (ints (M.roll xs ys n)) 124 (.row 8)), some (.cells [.slo 6 n] 116 .rw)]) (cons := [(Meets cfx 0 44 [.slo 0 n, .slo 1 n] [some (.cells (ints xs) TA .ro), some (.cells (ints ys) TB .ro), some (.cells [iV rb, iV dg] 56 .rw), some (.cells [V.raw (Value.slice none 0 0)] 58 .rw), some (.cells [V.raw (Value.slice none 0 0)] 67 .rw), some (.cells [iV 0] 32 .rw)] (V.tup [.slo 6 n, iV 0]) [some (.cells (ints xs) TA .ro), some (.cells (ints ys) TB .ro), some (.cells [iV rb, iV dg] 56 .rw), some (.cells [V.raw (Value.slice none 0 0)] 58 .rw), some (.cells [V.raw (Value.slice none 0 0)] 67 .rw), some (.cells [iV 0] 32 .rw), some (.cells (ints (M.roll xs ys n)) 124 (.row 8))]), (false = false), (Ret cfx 45 [V.raw (.agg { toList := [.int .i64 rb, .int .i64 dg] })] (iV (M.err (M.bncB rb dg)))), ((!decide (M.err (M.bncB rb dg) = 0)) = true)]) (by kernel_rfl)
    ⟨(by exact below2 (lim := 0) rfl rfl 0 1 (N := [some (.cells (ints (M.roll xs ys n)) 124 (.row 8))]) hl (ints_all _) (ints_all _) rfl (new_row _ _ _) rfl rfl (Nat.zero_le _)), rfl, (up1 (checkBounce _ _)), (by first | assumption | exact flg (by first | assumption | omega) | (simp_all; done)), trivial⟩) (by kernel_rfl) (fun RT RH => reshape2 (lim := 0) 2 cfx_G rfl [] (by kernel_rfl) (by kernel_rfl) (by exact (ents_raw (ints_all _) rfl rfl (ents_raw (ints_all _) rfl rfl (ents_nil)))) RT RH)
theorem Settle_bad (xs ys : List Int) (n : Nat) (TA TB : Nat) (rb dg : Int) (e : Int) (hl : Meets cfx 0 44 [.slo 0 n, .slo 1 n] [some (.cells (ints xs) TA .ro), some (.cells (ints ys) TB .ro)] (.tup [.slo 2 n, .raw (.int .i64 e)]) ([some (.cells (ints xs) TA .ro), some (.cells (ints ys) TB .ro), some (.cells (ints (M.roll xs ys n)) 124 (.row 8))])) (he : ¬ e = 0)  : Meets cfx 0 15 [.slo 0 n, .slo 1 n, .raw (.agg #[.int .i64 rb, .int .i64 dg])] [some (.cells (ints xs) TA .ro), some (.cells (ints ys) TB .ro)] (V.raw (.tuple { toList := [Value.slice none 0 0, Value.slice none 0 0, .int .i64 e] })) [some (.cells (ints xs) TA .ro), some (.cells (ints ys) TB .ro)] := by
  refine Meets.post (meets_ev cfx_mixed cfx_call (Nat.zero_le _) (Nat.le_of_ble_eq_true rfl) (n := 40) (ans := [Ans.go, Ans.reth (V.tup [.slo 6 n, iV e]) [some (.cells (ints xs) TA .ro), some (.cells (ints ys) TB .ro), some (.cells [iV rb, iV dg] 56 .rw), some (.cells [V.raw (Value.slice none 0 0)] 58 .rw), some (.cells [V.raw (Value.slice none 0 0)] 67 .rw), some (.cells [iV 0] 32 .rw), some (.cells (ints (M.roll xs ys n)) 124 (.row 8))], Ans.br true]) (v := V.raw (.tuple { toList := [Value.slice none 0 0, Value.slice none 0 0, .int .i64 e] })) (h' := [some (.cells (ints xs) TA .ro), some (.cells (ints ys) TB .ro), some (.cells [iV rb, iV dg] 56 .rw), some (.cells [V.raw (Value.slice none 0 0)] 58 .rw), some (.cells [V.raw (Value.slice none 0 0)] 67 .rw), some (.cells [iV e] 32 .rw), some (.cells (ints (M.roll xs ys n)) 124 (.row 8)), some (.cells [.slo 6 n] 116 .rw)]) (cons := [(Meets cfx 0 44 [.slo 0 n, .slo 1 n] [some (.cells (ints xs) TA .ro), some (.cells (ints ys) TB .ro), some (.cells [iV rb, iV dg] 56 .rw), some (.cells [V.raw (Value.slice none 0 0)] 58 .rw), some (.cells [V.raw (Value.slice none 0 0)] 67 .rw), some (.cells [iV 0] 32 .rw)] (V.tup [.slo 6 n, iV e]) [some (.cells (ints xs) TA .ro), some (.cells (ints ys) TB .ro), some (.cells [iV rb, iV dg] 56 .rw), some (.cells [V.raw (Value.slice none 0 0)] 58 .rw), some (.cells [V.raw (Value.slice none 0 0)] 67 .rw), some (.cells [iV 0] 32 .rw), some (.cells (ints (M.roll xs ys n)) 124 (.row 8))]), ((!decide (e = 0)) = true)]) (by kernel_rfl)
    ⟨(by exact below2 (lim := 0) rfl rfl 0 1 (N := [some (.cells (ints (M.roll xs ys n)) 124 (.row 8))]) hl (ints_all _) (ints_all _) rfl (new_row _ _ _) rfl rfl (Nat.zero_le _)), (by first | assumption | exact flg (by first | assumption | omega) | (simp_all; done)), trivial⟩) (by kernel_rfl) (fun RT RH => reshape2 (lim := 0) 2 cfx_G rfl [] (by kernel_rfl) (by kernel_rfl) (by exact (ents_raw (ints_all _) rfl rfl (ents_raw (ints_all _) rfl rfl (ents_nil)))) RT RH)
theorem Settle_nil (xs ys : List Int) (n k : Nat) (TA TB : Nat) (rb dg : Int) (e : Int) (hl : Meets cfx 0 44 [.slo 0 n, .slo 1 k] [some (.cells (ints xs) TA .ro), some (.cells (ints ys) TB .ro)] (.raw (.tuple #[.slice none 0 0, .int .i64 e])) [some (.cells (ints xs) TA .ro), some (.cells (ints ys) TB .ro)]) (he : ¬ e = 0)  : Meets cfx 0 15 [.slo 0 n, .slo 1 k, .raw (.agg #[.int .i64 rb, .int .i64 dg])] [some (.cells (ints xs) TA .ro), some (.cells (ints ys) TB .ro)] (V.raw (.tuple { toList := [Value.slice none 0 0, Value.slice none 0 0, .int .i64 e] })) [some (.cells (ints xs) TA .ro), some (.cells (ints ys) TB .ro)] := by
  refine Meets.post (meets_ev cfx_mixed cfx_call (Nat.zero_le _) (Nat.le_of_ble_eq_true rfl) (n := 40) (ans := [Ans.go, Ans.reth (V.raw (.tuple { toList := [Value.slice none 0 0, .int .i64 e] })) [some (.cells (ints xs) TA .ro), some (.cells (ints ys) TB .ro), some (.cells [iV rb, iV dg] 56 .rw), some (.cells [V.raw (Value.slice none 0 0)] 58 .rw), some (.cells [V.raw (Value.slice none 0 0)] 67 .rw), some (.cells [iV 0] 32 .rw)], Ans.br true]) (v := V.raw (.tuple { toList := [Value.slice none 0 0, Value.slice none 0 0, .int .i64 e] })) (h' := [some (.cells (ints xs) TA .ro), some (.cells (ints ys) TB .ro), some (.cells [iV rb, iV dg] 56 .rw), some (.cells [V.raw (Value.slice none 0 0)] 58 .rw), some (.cells [V.raw (Value.slice none 0 0)] 67 .rw), some (.cells [iV e] 32 .rw), some (.cells [V.raw (Value.slice none 0 0)] 116 .rw)]) (cons := [(Meets cfx 0 44 [.slo 0 n, .slo 1 k] [some (.cells (ints xs) TA .ro), some (.cells (ints ys) TB .ro), some (.cells [iV rb, iV dg] 56 .rw), some (.cells [V.raw (Value.slice none 0 0)] 58 .rw), some (.cells [V.raw (Value.slice none 0 0)] 67 .rw), some (.cells [iV 0] 32 .rw)] (V.raw (.tuple { toList := [Value.slice none 0 0, .int .i64 e] })) [some (.cells (ints xs) TA .ro), some (.cells (ints ys) TB .ro), some (.cells [iV rb, iV dg] 56 .rw), some (.cells [V.raw (Value.slice none 0 0)] 58 .rw), some (.cells [V.raw (Value.slice none 0 0)] 67 .rw), some (.cells [iV 0] 32 .rw)]), ((!decide (e = 0)) = true)]) (by kernel_rfl)
    ⟨(by exact below2 (lim := 0) rfl rfl 0 1 (N := []) hl (ints_all _) (ints_all _) rfl (fun k X h => by simp at h) rfl rfl (Nat.zero_le _)), (by first | assumption | exact flg (by first | assumption | omega) | (simp_all; done)), trivial⟩) (by kernel_rfl) (fun RT RH => reshape2 (lim := 0) 2 cfx_G rfl [] (by kernel_rfl) (by kernel_rfl) (by exact (ents_raw (ints_all _) rfl rfl (ents_raw (ints_all _) rfl rfl (ents_nil)))) RT RH)
theorem Settle_no (xs ys : List Int) (n k : Nat) (TA TB : Nat) (rb dg : Int) (hx : 2 * n ≤ xs.length) (hy : 6 * k ≤ ys.length) (h : ¬ M.sE xs ys n k rb dg = 0) :
    Meets cfx 0 15 [.slo 0 n, .slo 1 k, .raw (.agg #[.int .i64 rb, .int .i64 dg])] [some (.cells (ints xs) TA .ro), some (.cells (ints ys) TB .ro)] (.raw (.tuple #[.slice none 0 0, .slice none 0 0, .int .i64 (M.sE xs ys n k rb dg)])) [some (.cells (ints xs) TA .ro), some (.cells (ints ys) TB .ro)] := by
  unfold M.sE at h ⊢
  by_cases he : M.lE xs ys n k = 0
  · rw [if_pos he] at h ⊢
    obtain ⟨h1, rfl, h3⟩ := M.lE_ok he
    have hl := tog_all xs ys k TA TB hx hy (by omega)
    rw [h3] at hl
    by_cases hb : M.err (M.bncB rb dg) = 0
    · rw [if_pos hb] at h ⊢
      rcases pse_loop xs ys k TA TB rb dg h1 (M.err_eq.1 hb) ⟨List.take (k * 6) ys, [], 0⟩ ⟨by simp; omega, rfl, by simp⟩ (by show M.allB xs (List.take (k * 6) ys) k = true; rw [M.allB_take xs ys k hy]; exact h3) with ⟨s', q1, q2, q3⟩ | ⟨q1, i, j, s', s2, q2, q3⟩
      · rw [q1] at h; exact absurd rfl h
      · rw [q1]
        simp only [M.roll_take xs ys k hy] at q3
        have := Settle_over xs ys k TA TB rb dg h1 hl hb i j s' s2 q3
        simp only [Int.toNat_natCast, q2] at this
        exact this
    · rw [if_neg hb]
      have e2 : M.err (M.bncB rb dg) = 2 := by
        cases hq : M.bncB rb dg with
        | true => rw [hq] at hb; exact absurd rfl hb
        | false => rfl
      have := Settle_bnc xs ys k TA TB rb dg hl hb
      rw [e2] at this
      exact this
  · rw [if_neg he] at h ⊢
    unfold M.lE at he h ⊢
    by_cases hn : (8 : Int) < (n : Int)
    · simp only [if_pos hn]
      exact Settle_nil xs ys n k TA TB rb dg 6 (tog_many xs ys n k TA TB hn) (by decide)
    · simp only [if_neg hn] at he ⊢
      by_cases hk : (k : Int) = n
      · simp only [if_pos hk] at he ⊢
        obtain rfl : k = n := by omega
        exact Settle_bad xs ys k TA TB rb dg _ (tog_all xs ys k TA TB hx hy hn) he
      · simp only [if_neg hk]
        exact Settle_nil xs ys n k TA TB rb dg 17 (tog_eq xs ys n k TA TB hn hk) (by decide)
theorem Settle_yes (xs ys : List Int) (n : Nat) (TA TB : Nat) (rb dg : Int) (hx : 2 * n ≤ xs.length) (hy : 6 * n ≤ ys.length) (hl0 : M.lE xs ys n n = 0) (hb : M.bncB rb dg = true) {s : M.St} (hs : M.outr xs rb dg n ⟨List.take (n * 6) ys, [], 0⟩ = some s) :
    Meets cfx 0 15 [.slo 0 n, .slo 1 n, .raw (.agg #[.int .i64 rb, .int .i64 dg])] [some (.cells (ints xs) TA .ro), some (.cells (ints ys) TB .ro)] (.tup [.slo 2 n, .slo 3 s.m, .raw (.int .i64 0)]) [some (.cells (ints xs) TA .ro), some (.cells (ints ys) TB .ro), some (.cells (ints s.os) 62 (.row 6)), some (.cells (ints s.ps) 71 (.row 2))] := by
  obtain ⟨h1, _, h3⟩ := M.lE_ok hl0
  have hl := tog_all xs ys n TA TB hx hy (by omega)
  rw [h3] at hl
  rcases pse_loop xs ys n TA TB rb dg h1 hb ⟨List.take (n * 6) ys, [], 0⟩ ⟨by simp; omega, rfl, by simp⟩ (by show M.allB xs (List.take (n * 6) ys) n = true; rw [M.allB_take xs ys n hy]; exact h3) with ⟨s', q1, q2, q3⟩ | ⟨q1, _⟩
  · obtain rfl : s' = s := Option.some.inj (q1.symm.trans hs)
    simp only [M.roll_take xs ys n hy] at q3
    exact Settle_ok xs ys n TA TB rb dg h1 hl (M.err_eq.2 hb) s' q2.1 q3
  · rw [q1] at hs; cases hs
end Go.Proofs.YteefjegampdpoaaDoor
end
section
namespace Go.Proofs.YteefjegampdpoaaDoor.M
open Go.Proofs.YteefjegampdpoaaDoor.E2
def nearP (xs ys : List Int) (i k : Nat) : Prop := nearB (sq (at' ys (i * 6)) (at' ys (i * 6 + 1)) (at' ys (k * 6)) (at' ys (k * 6 + 1))) (at' xs (i * 2 + 1) + at' xs (k * 2 + 1)) = true
structure Kept (xs ys : List Int) (n : Nat) (s : St) : Prop where
  len : s.os.length = n * 6
  plen : s.ps.length = s.m * 2
  good : allB xs s.os n = true
  still : ∀ j, j < n → at' s.os (j * 6) = at' ys (j * 6) ∧ at' s.os (j * 6 + 1) = at' ys (j * 6 + 1) ∧ at' s.os (j * 6 + 4) = at' ys (j * 6 + 4) ∧ at' s.os (j * 6 + 5) = at' ys (j * 6 + 5)
  sum : sumY s.os 2 n = sumY ys 2 n ∧ sumY s.os 3 n = sumY ys 3 n
  met : ∀ t, t < s.m → ∃ j k : Nat, at' s.ps (t * 2) = j ∧ at' s.ps (t * 2 + 1) = k ∧ j < k ∧ k < n ∧ nearP xs ys j k
  alone : ∀ j : Nat, j < n → (∀ t, t < s.m → at' s.ps (t * 2) ≠ (j : Int) ∧ at' s.ps (t * 2 + 1) ≠ (j : Int)) → at' s.os (j * 6 + 2) = at' ys (j * 6 + 2) ∧ at' s.os (j * 6 + 3) = at' ys (j * 6 + 3)
theorem sum_two {os : List Int} {n i k : Nat} (hi : i < n) (hk : k < n) (hik : i ≠ k) (ho : os.length = n * 6) {A B : List Int} (hA : A.length = 6) (hB : B.length = 6) {o : Nat} (h6 : o < 6) :
    ∀ t, t ≤ n → sumY (putI (putI os (i * 6) A) (k * 6) B) o t = sumY os o t + (if i < t then at' A o - at' os (i * 6 + o) else 0) + (if k < t then at' B o - at' os (k * 6 + o) else 0)
  | 0, _ => by simp [sumY]
  | t + 1, ht => by
    have ih := sum_two hi hk hik ho hA hB h6 t (by omega)
    simp only [sumY]
    rw [ih, at_two hi hk hik ho hA hB t o h6]
    by_cases h1 : t = k
    · subst h1
      rw [if_pos rfl]
      by_cases h2 : i < t
      · rw [if_pos h2, if_neg (Nat.lt_irrefl t), if_pos (by omega), if_pos (by omega)]; omega
      · rw [if_neg h2, if_neg (Nat.lt_irrefl t), if_neg (by omega), if_pos (by omega)]; omega
    · rw [if_neg h1]
      by_cases h2 : t = i
      · subst h2
        rw [if_pos rfl, if_neg (Nat.lt_irrefl t), if_pos (show t < t + 1 by omega)]
        by_cases h3 : k < t
        · rw [if_pos h3, if_pos (show k < t + 1 by omega)]; omega
        · rw [if_neg h3, if_neg (show ¬ k < t + 1 by omega)]; omega
      · rw [if_neg h2]
        by_cases h3 : i < t <;> by_cases h4 : k < t
        · rw [if_pos h3, if_pos h4, if_pos (show i < t + 1 by omega), if_pos (show k < t + 1 by omega)]; omega
        · rw [if_pos h3, if_neg h4, if_pos (show i < t + 1 by omega), if_neg (show ¬ k < t + 1 by omega)]; omega
        · rw [if_neg h3, if_pos h4, if_neg (show ¬ i < t + 1 by omega), if_pos (show k < t + 1 by omega)]; omega
        · rw [if_neg h3, if_neg h4, if_neg (show ¬ i < t + 1 by omega), if_neg (show ¬ k < t + 1 by omega)]; omega
theorem be_near {xs os : List Int} {rb dg : Int} {i k : Nat} (h : be xs os rb dg i k = 0) : nearP xs os i k := by
  unfold be BE at h
  split at h
  · rename_i hK
    exact (KE_facts hK).2.2.2.1
  · exact absurd h (by assumption)
theorem app_at {ps : List Int} {m : Nat} (h : ps.length = m * 2) (a b : Int) (t : Nat) (q : Nat) (hq : q < 2) (ht : t < m + 1) : at' (ps ++ [a, b]) (t * 2 + q) = if t = m then at' [a, b] q else at' ps (t * 2 + q) := by
  unfold at'
  rw [List.getD_eq_getElem?_getD, List.getD_eq_getElem?_getD, List.getD_eq_getElem?_getD]
  by_cases h1 : t = m
  · subst h1
    rw [if_pos rfl, List.getElem?_append_right (by omega), show t * 2 + q - ps.length = q by omega]
  · rw [if_neg h1, List.getElem?_append_left (by omega)]
theorem Kept.step {xs ys : List Int} {rb dg : Int} {n i k : Nat} {s s' : St} (hik : i < k) (hk : k < n) (K : Kept xs ys n s) (h : stpC xs rb dg i k s = some s') : Kept xs ys n s' := by
  obtain ⟨_, ⟨hE, rfl⟩ | ⟨_, rfl⟩⟩ := stp_cases h
  · have two := fun j t ht => at_two (os := s.os) (show i < n by omega) hk (show i ≠ k by omega) K.len (A := [nI xs s.os rb dg i k 0, nI xs s.os rb dg i k 1, nI xs s.os rb dg i k 2, nI xs s.os rb dg i k 3, nI xs s.os rb dg i k 4, nI xs s.os rb dg i k 5]) (B := [nK xs s.os rb dg i k 0, nK xs s.os rb dg i k 1, nK xs s.os rb dg i k 2, nK xs s.os rb dg i k 3, nK xs s.os rb dg i k 4, nK xs s.os rb dg i k 5]) rfl rfl j t ht
    have two0 := fun j => two j 0 (by omega)
    simp only [Nat.add_zero] at two0
    have stl : ∀ j t, t < 6 → t ≠ 2 → t ≠ 3 → at' (putI (putI s.os (i * 6) [nI xs s.os rb dg i k 0, nI xs s.os rb dg i k 1, nI xs s.os rb dg i k 2, nI xs s.os rb dg i k 3, nI xs s.os rb dg i k 4, nI xs s.os rb dg i k 5]) (k * 6) [nK xs s.os rb dg i k 0, nK xs s.os rb dg i k 1, nK xs s.os rb dg i k 2, nK xs s.os rb dg i k 3, nK xs s.os rb dg i k 4, nK xs s.os rb dg i k 5]) (j * 6 + t) = at' s.os (j * 6 + t) := fun j t ht h2 h3 => by
      rw [two j t ht]
      have hn : t = 0 ∨ t = 1 ∨ t = 4 ∨ t = 5 := by omega
      split
      · rename_i hj
        subst hj
        rcases hn with rfl | rfl | rfl | rfl <;> simp [at', nK, hE, selC]
      · split
        · rename_i hj
          subst hj
          rcases hn with rfl | rfl | rfl | rfl <;> simp [at', nI, hE, selC]
        · rfl
    refine ⟨?_, ?_, allB_bounce (by omega) hk (by omega) K.len hE K.good, fun j hj => ?_, ?_, fun t ht => ?_, fun j hj ha => ?_⟩
    · simp only [putI_length, K.len, List.length_cons, List.length_nil]; omega
    · simp only [List.length_append, K.plen, List.length_cons, List.length_nil]; omega
    · obtain ⟨a, b, c, d⟩ := K.still j hj
      have s0 := stl j 0 (by omega) (by omega) (by omega)
      simp only [Nat.add_zero] at s0
      exact ⟨s0.trans a, (stl j 1 (by omega) (by omega) (by omega)).trans b, (stl j 4 (by omega) (by omega) (by omega)).trans c, (stl j 5 (by omega) (by omega) (by omega)).trans d⟩
    · have s2 := sum_two (os := s.os) (show i < n by omega) hk (show i ≠ k by omega) K.len (A := [nI xs s.os rb dg i k 0, nI xs s.os rb dg i k 1, nI xs s.os rb dg i k 2, nI xs s.os rb dg i k 3, nI xs s.os rb dg i k 4, nI xs s.os rb dg i k 5]) (B := [nK xs s.os rb dg i k 0, nK xs s.os rb dg i k 1, nK xs s.os rb dg i k 2, nK xs s.os rb dg i k 3, nK xs s.os rb dg i k 4, nK xs s.os rb dg i k 5]) rfl rfl (o := 2) (by omega) n (Nat.le_refl _)
      have s3 := sum_two (os := s.os) (show i < n by omega) hk (show i ≠ k by omega) K.len (A := [nI xs s.os rb dg i k 0, nI xs s.os rb dg i k 1, nI xs s.os rb dg i k 2, nI xs s.os rb dg i k 3, nI xs s.os rb dg i k 4, nI xs s.os rb dg i k 5]) (B := [nK xs s.os rb dg i k 0, nK xs s.os rb dg i k 1, nK xs s.os rb dg i k 2, nK xs s.os rb dg i k 3, nK xs s.os rb dg i k 4, nK xs s.os rb dg i k 5]) rfl rfl (o := 3) (by omega) n (Nat.le_refl _)
      rw [if_pos (by omega), if_pos hk] at s2 s3
      have a2 : at' [nI xs s.os rb dg i k 0, nI xs s.os rb dg i k 1, nI xs s.os rb dg i k 2, nI xs s.os rb dg i k 3, nI xs s.os rb dg i k 4, nI xs s.os rb dg i k 5] 2 = at' s.os (i * 6 + 2) - bkx xs s.os rb dg i k := by simp [at', nI, hE, selC]
      have b2 : at' [nK xs s.os rb dg i k 0, nK xs s.os rb dg i k 1, nK xs s.os rb dg i k 2, nK xs s.os rb dg i k 3, nK xs s.os rb dg i k 4, nK xs s.os rb dg i k 5] 2 = at' s.os (k * 6 + 2) + bkx xs s.os rb dg i k := by simp [at', nK, hE, selC]
      have a3 : at' [nI xs s.os rb dg i k 0, nI xs s.os rb dg i k 1, nI xs s.os rb dg i k 2, nI xs s.os rb dg i k 3, nI xs s.os rb dg i k 4, nI xs s.os rb dg i k 5] 3 = at' s.os (i * 6 + 3) - bky xs s.os rb dg i k := by simp [at', nI, hE, selC]
      have b3 : at' [nK xs s.os rb dg i k 0, nK xs s.os rb dg i k 1, nK xs s.os rb dg i k 2, nK xs s.os rb dg i k 3, nK xs s.os rb dg i k 4, nK xs s.os rb dg i k 5] 3 = at' s.os (k * 6 + 3) + bky xs s.os rb dg i k := by simp [at', nK, hE, selC]
      rw [a2, b2] at s2
      rw [a3, b3] at s3
      have := K.sum
      show sumY (putI _ _ _) 2 n = _ ∧ sumY (putI _ _ _) 3 n = _
      omega
    · have ht' : t < s.m + 1 := ht
      have p0 := app_at K.plen (i : Int) (k : Int) t 0 (by omega) ht'
      have p1 := app_at K.plen (i : Int) (k : Int) t 1 (by omega) ht'
      simp only [Nat.add_zero] at p0
      by_cases h1 : t = s.m
      · rw [if_pos h1] at p0 p1
        refine ⟨i, k, p0, p1, hik, hk, ?_⟩
        have hn := be_near hE
        obtain ⟨a, b, _⟩ := K.still i (by omega)
        obtain ⟨c, d, _⟩ := K.still k hk
        unfold nearP at hn ⊢
        rw [a, b, c, d] at hn
        exact hn
      · rw [if_neg h1] at p0 p1
        obtain ⟨j, q, e1, e2, e3⟩ := K.met t (by omega)
        exact ⟨j, q, p0.trans e1, p1.trans e2, e3⟩
    · have last := ha s.m (by show s.m < s.m + 1; omega)
      have p0 := app_at K.plen (i : Int) (k : Int) s.m 0 (by omega) (by omega)
      have p1 := app_at K.plen (i : Int) (k : Int) s.m 1 (by omega) (by omega)
      simp only [Nat.add_zero, if_true] at p0
      rw [if_pos rfl] at p1
      have q0 : (i : Int) ≠ j := fun e => last.1 (p0.trans e)
      have q1 : (k : Int) ≠ j := fun e => last.2 (p1.trans e)
      have nj1 : ¬ j = k := fun e => q1 (by rw [e])
      have nj2 : ¬ j = i := fun e => q0 (by rw [e])
      have t2 := two j 2 (by omega)
      have t3 := two j 3 (by omega)
      rw [if_neg nj1, if_neg nj2] at t2 t3
      have := K.alone j hj fun t ht => by
        have := ha t (by show t < s.m + 1; omega)
        have r0 := app_at K.plen (i : Int) (k : Int) t 0 (by omega) (by omega)
        have r1 := app_at K.plen (i : Int) (k : Int) t 1 (by omega) (by omega)
        simp only [Nat.add_zero] at r0
        rw [if_neg (by omega)] at r0 r1
        exact ⟨by rw [← r0]; exact this.1, by rw [← r1]; exact this.2⟩
      exact ⟨t2.trans this.1, t3.trans this.2⟩
  · exact K
theorem iterO_keeps {σ : Type} {f : Nat → σ → Option σ} {P : σ → Prop} {n : Nat} {a0 : Nat} (hs : ∀ i s s', a0 ≤ i → i < n → P s → f i s = some s' → P s') : ∀ k a s s', a0 ≤ a → a + k = n → P s → iterO f a k s = some s' → P s'
  | 0, a, s, s', h0, ha, hp, h => by
    simp only [iterO, Option.some.injEq] at h
    subst h; exact hp
  | k + 1, a, s, s', h0, ha, hp, h => by
    simp only [iterO] at h
    cases hf : f a s with
    | none => rw [hf] at h; cases h
    | some q =>
      rw [hf] at h
      exact iterO_keeps hs k (a + 1) q s' (by omega) (by omega) (hs a s q h0 (by omega) hp hf) h
theorem Kept.outr {xs ys : List Int} {rb dg : Int} {n : Nat} {s s' : St} (K : Kept xs ys n s) (h : outr xs rb dg n s = some s') : Kept xs ys n s' := by
  refine iterO_keeps (P := Kept xs ys n) (n := n) (a0 := 0) (fun i s s' _ hi hp hf => ?_) n 0 s s' (Nat.le_refl _) (by omega) K h
  exact iterO_keeps (P := Kept xs ys n) (n := n) (a0 := i + 1) (fun k s s' h0 hk hp hf => hp.step h0 hk hf) (n - (i + 1)) (i + 1) s s' (Nat.le_refl _) (by omega) hp hf
theorem sumY_take {ys : List Int} {n o : Nat} (ho : o < 6) : ∀ t, t ≤ n → sumY (List.take (n * 6) ys) o t = sumY ys o t
  | 0, _ => rfl
  | t + 1, h => by
    simp only [sumY]
    rw [sumY_take ho t (by omega)]
    congr 1
    simp [at', List.getD, List.getElem?_take, show t * 6 + o < n * 6 by omega]
theorem Kept.start {xs ys : List Int} {n : Nat} (hy : 6 * n ≤ ys.length) (hg : allB xs (List.take (n * 6) ys) n = true) : Kept xs ys n ⟨List.take (n * 6) ys, [], 0⟩ := by
  have tk : ∀ k, k < n * 6 → at' (List.take (n * 6) ys) k = at' ys k := fun k hk => by simp [at', List.getD, List.getElem?_take, hk]
  exact ⟨by simp; omega, rfl, hg, fun j hj => ⟨tk _ (by omega), tk _ (by omega), tk _ (by omega), tk _ (by omega)⟩, ⟨sumY_take (by omega) n (Nat.le_refl _), sumY_take (by omega) n (Nat.le_refl _)⟩, fun t ht => absurd ht (Nat.not_lt_zero t), fun j hj _ => ⟨tk _ (by omega), tk _ (by omega)⟩⟩
end Go.Proofs.YteefjegampdpoaaDoor.M
end
section
namespace Go.Proofs.YteefjegampdpoaaDoor
namespace M
theorem tp_mot {m r a b u v p q : Int} (h : motB m r a b u v p q = true) : ((400 ≤ m ∧ m ≤ 500) ∧ (1000 ≤ r ∧ r ≤ 4096)) ∧ ((-4194304 ≤ a ∧ a ≤ 4194304) ∧ (-4194304 ≤ b ∧ b ≤ 4194304)) ∧ ((-16777216 ≤ u ∧ u ≤ 16777216) ∧ (-16777216 ≤ v ∧ v ≤ 16777216)) ∧ ((-(32 * m) ≤ p ∧ p ≤ 32 * m - 1) ∧ (-(32 * m) ≤ q ∧ q ≤ 32 * m - 1)) := by
  unfold motB ballB placeB momB restB at h
  simp only [Bool.and_eq_true, btw_iff] at h
  omega
def sel (e x : Int) : Int := if e = 0 then x else 0
def axT (n m a u p : Int) : Int := a + whole (n * u + p) (64 * m)
def arT (n m u p : Int) : Int := rest (n * u + p) (64 * m)
def AET (n m a b u v p q : Int) : Int := if placeB (axT n m a u p) (axT n m b v q) then 0 else 4
def SET (m r a b u v p q : Int) : Int := if motB m r a b u v p q then AET 1 m a b u v p q else 2
theorem tp_whole {n d B : Int} (hd : 0 < d) (h1 : -B ≤ n) (h2 : n ≤ B) : -B - 1 ≤ whole n d ∧ whole n d ≤ B + 1 := by
  have e := whole_rest n d
  have l := rest_lo n d hd
  have g := rest_hi n d hd
  generalize whole n d = w at *
  generalize rest n d = s at *
  constructor
  · rcases Int.lt_or_le w (-B - 1) with h | h
    · exfalso
      have h3 : (B + 1) * 1 ≤ (-w - 1 + 1) * 1 := by omega
      have h4 : (-w - 1) * 1 ≤ (-w - 1) * d := Int.mul_le_mul_of_nonneg_left (by omega) (by omega)
      have e2 : w * d = -((-w - 1) * d) - d := by grind
      omega
    · exact h
  · rcases Int.lt_or_le (B + 1) w with h | h
    · exfalso
      have h4 : (w - 1) * 1 ≤ (w - 1) * d := Int.mul_le_mul_of_nonneg_left (by omega) (by omega)
      have e2 : w * d = (w - 1) * d + d := by grind
      omega
    · exact h
theorem tp_step {m u p : Int} (hm : 400 ≤ m ∧ m ≤ 500) (hu : -16777216 ≤ u ∧ u ≤ 16777216) (hp : -(32 * m) ≤ p ∧ p ≤ 32 * m - 1) :
    -16900000 ≤ whole (u + p) (64 * m) ∧ whole (u + p) (64 * m) ≤ 16900000 := by
  have h2 := tp_whole (n := u + p) (d := 64 * m) (B := 16800000) (by omega) (by omega) (by omega)
  omega
end M
end Go.Proofs.YteefjegampdpoaaDoor
end
section
namespace Go.Proofs.YteefjegampdpoaaDoor
namespace M
theorem placeB_iff {x y : Int} : placeB x y = true ↔ In x y := by
  unfold placeB In
  rw [Bool.and_eq_true, btw_iff, btw_iff]
theorem mot_ok {x y u v p q : Int} (h : In x y) (hu : -16777216 ≤ u ∧ u ≤ 16777216) (hv : -16777216 ≤ v ∧ v ≤ 16777216) (hp : -(32 * 450) ≤ p ∧ p ≤ 32 * 450 - 1) (hq : -(32 * 450) ≤ q ∧ q ≤ 32 * 450 - 1) : motB 450 2946 x y u v p q = true := by
  unfold motB
  rw [placeB_iff.2 h]
  unfold ballB momB restB
  simp only [Bool.and_eq_true, Bool.and_true, btw_iff]
  refine ⟨⟨⟨by omega, by omega⟩, by omega, by omega⟩, by omega, by omega⟩
end M
end Go.Proofs.YteefjegampdpoaaDoor
end
section
namespace Go.Proofs.YteefjegampdpoaaDoor.M
open Go.Proofs.YteefjegampdpoaaDoor.E2
def tB : Nat → List Int
  | 0 => []
  | i + 1 => tB i ++ [450, 2946]
def tU (ms : List Int) (k i j : Nat) : Int := if (i : Int) < k then (at' ms (i * 2 + j)).tmod 4194304 else 0
def tM (ds ms : List Int) (k : Nat) : Nat → List Int
  | 0 => []
  | i + 1 => tM ds ms k i ++ [(at' ds (i * 2)).tdiv 4, (at' ds (i * 2 + 1)).tdiv 4, tU ms k i 0, tU ms k i 1, 0, 0]
theorem tB_len : ∀ n, (tB n).length = n * 2
  | 0 => rfl
  | n + 1 => by simp only [tB, List.length_append, tB_len n, List.length_cons, List.length_nil]; omega
theorem tM_len (ds ms : List Int) (k : Nat) : ∀ n, (tM ds ms k n).length = n * 6
  | 0 => rfl
  | n + 1 => by simp only [tM, List.length_append, tM_len ds ms k n, List.length_cons, List.length_nil]; omega
theorem at_app {l m : List Int} {j : Nat} (h : j < l.length) : at' (l ++ m) j = at' l j := by
  unfold at'
  rw [List.getD_eq_getElem?_getD, List.getD_eq_getElem?_getD, List.getElem?_append_left h]
theorem at_end {l m : List Int} {j q : Nat} (h : j = l.length + q) : at' (l ++ m) j = at' m q := by
  unfold at'
  rw [List.getD_eq_getElem?_getD, List.getD_eq_getElem?_getD, List.getElem?_append_right (by omega), show j - l.length = q by omega]
theorem tB_at : ∀ {n j : Nat}, j < n → at' (tB n) (j * 2) = 450 ∧ at' (tB n) (j * 2 + 1) = 2946
  | 0, j, h => by omega
  | n + 1, j, h => by
    have hl := tB_len n
    simp only [tB]
    rcases Nat.lt_or_ge j n with q | q
    · rw [at_app (by omega), at_app (by omega)]
      exact tB_at q
    · rw [at_end (q := 0) (by omega), at_end (q := 1) (by omega)]
      exact ⟨rfl, rfl⟩
theorem tM_at {ds ms : List Int} {k : Nat} : ∀ {n j : Nat}, j < n → at' (tM ds ms k n) (j * 6) = (at' ds (j * 2)).tdiv 4 ∧ at' (tM ds ms k n) (j * 6 + 1) = (at' ds (j * 2 + 1)).tdiv 4 ∧ at' (tM ds ms k n) (j * 6 + 2) = tU ms k j 0 ∧ at' (tM ds ms k n) (j * 6 + 3) = tU ms k j 1 ∧ at' (tM ds ms k n) (j * 6 + 4) = 0 ∧ at' (tM ds ms k n) (j * 6 + 5) = 0
  | 0, j, h => by omega
  | n + 1, j, h => by
    have hl := tM_len ds ms k n
    simp only [tM]
    rcases Nat.lt_or_ge j n with q | q
    · rw [at_app (by omega), at_app (by omega), at_app (by omega), at_app (by omega), at_app (by omega), at_app (by omega)]
      exact tM_at q
    · obtain rfl : j = n := by omega
      rw [at_end (q := 0) (by omega), at_end (q := 1) (by omega), at_end (q := 2) (by omega), at_end (q := 3) (by omega), at_end (q := 4) (by omega), at_end (q := 5) (by omega)]
      exact ⟨rfl, rfl, rfl, rfl, rfl, rfl⟩
theorem div4 {x : Int} (h : 0 ≤ x ∧ x ≤ 65535) : 0 ≤ x.tdiv 4 ∧ x.tdiv 4 ≤ 16383 := by
  rw [Int.tdiv_eq_ediv_of_nonneg h.1]
  omega
theorem mod22 (x : Int) : -4194303 ≤ x.tmod 4194304 ∧ x.tmod 4194304 ≤ 4194303 := by
  have h1 := Int.tmod_lt_of_pos x (show (0 : Int) < 4194304 by decide)
  have h2 := Int.tmod_lt_of_pos (-x) (show (0 : Int) < 4194304 by decide)
  rw [Int.neg_tmod] at h2
  omega
theorem tU_in (ms : List Int) (k i j : Nat) : -4194303 ≤ tU ms k i j ∧ tU ms k i j ≤ 4194303 := by
  unfold tU
  split
  · exact mod22 _
  · omega
theorem t_all {ds ms : List Int} {k n : Nat} (hd : ∀ j : Nat, 0 ≤ at' ds j ∧ at' ds j ≤ 65535) : allB (tB n) (tM ds ms k n) n = true := by
  unfold allB
  rw [List.all_eq_true]
  intro j hj
  have hj := List.mem_range.1 hj
  obtain ⟨b1, b2⟩ := tB_at hj
  obtain ⟨m1, m2, m3, m4, m5, m6⟩ := tM_at (ds := ds) (ms := ms) (k := k) hj
  unfold goodB
  rw [b1, b2, m1, m2, m3, m4, m5, m6]
  have d1 := div4 (hd (j * 2))
  have d2 := div4 (hd (j * 2 + 1))
  have u1 := tU_in ms k j 0
  have u2 := tU_in ms k j 1
  exact mot_ok (by unfold In; omega) (by omega) (by omega) (by omega) (by omega)
theorem iterO_inv {σ : Type} {f : Nat → σ → Option σ} {P : Nat → σ → Prop} {n : Nat} (hs : ∀ i s s', i < n → P i s → f i s = some s' → P (i + 1) s') : ∀ k a s s', a + k = n → P a s → iterO f a k s = some s' → P n s'
  | 0, a, s, s', ha, hp, h => by
    simp only [iterO, Option.some.injEq] at h
    subst h
    rw [← ha]
    exact hp
  | k + 1, a, s, s', ha, hp, h => by
    simp only [iterO] at h
    cases hf : f a s with
    | none => rw [hf] at h; cases h
    | some q =>
      rw [hf] at h
      exact iterO_inv hs k (a + 1) q s' (by omega) (hs a s q (by omega) hp hf) h
theorem m_bd {xs ys : List Int} {rb dg : Int} {n : Nat} (hn : n ≤ 8) (hy : 6 * n ≤ ys.length) {s : St} (h : outr xs rb dg n ⟨List.take (n * 6) ys, [], 0⟩ = some s) : s.m ≤ 8 * n := by
  have key : InvO n n s := by
    refine iterO_inv (P := InvO n) (n := n) (fun i s s' hi hp hf => ?_) n 0 _ s (by omega) ⟨by simp; omega, rfl, by simp⟩ h
    obtain ⟨v1, v2, v3⟩ := hp
    obtain ⟨w1, w2, w3⟩ := iterO_inv (P := fun k s => Inv n i k s) (n := n) (fun k s s' hk hp hf => hp.step hi hk hf) (n - (i + 1)) (i + 1) s s' (by omega) ⟨v1, v2, by omega⟩ hf
    exact ⟨w1, w2, by omega⟩
  exact key.2.2
def apt (ys : List Int) (i : Nat) : Nat → Bool
  | 0 => true
  | q + 1 => apt ys i q && ((q == i) || decide (34715664 < sq (at' ys (i * 6)) (at' ys (i * 6 + 1)) (at' ys (q * 6)) (at' ys (q * 6 + 1))))
theorem apt_all {ys : List Int} {i : Nat} : ∀ {n q : Nat}, apt ys i n = true → q < n → q ≠ i → 34715664 < sq (at' ys (i * 6)) (at' ys (i * 6 + 1)) (at' ys (q * 6)) (at' ys (q * 6 + 1))
  | 0, q, _, h, _ => by omega
  | n + 1, q, h, hq, hn => by
    simp only [apt, Bool.and_eq_true, Bool.or_eq_true, beq_iff_eq, decide_eq_true_eq] at h
    rcases Nat.lt_or_ge q n with k | k
    · exact apt_all h.1 k hn
    · obtain rfl : q = n := by omega
      exact h.2.resolve_left hn
theorem sq_comm (x y u v : Int) : sq x y u v = sq u v x y := by
  unfold sq
  rw [show x - u = -(u - x) by omega, show y - v = -(v - y) by omega, Int.neg_mul_neg, Int.neg_mul_neg]
theorem apt_kept {ds ms : List Int} {k n i : Nat} {s : St} (K : Kept (tB n) (tM ds ms k n) n s) (hi : i < n) (h : apt (tM ds ms k n) i n = true) :
    at' s.os (i * 6 + 2) = at' (tM ds ms k n) (i * 6 + 2) ∧ at' s.os (i * 6 + 3) = at' (tM ds ms k n) (i * 6 + 3) := by
  refine K.alone i hi fun t ht => ?_
  obtain ⟨j, q, e1, e2, hjq, hq, hN⟩ := K.met t ht
  unfold nearP nearB at hN
  rw [Bool.and_eq_true, decide_eq_true_eq] at hN
  rw [(tB_at (show j < n by omega)).2, (tB_at hq).2] at hN
  constructor
  · intro e
    have ej : j = i := by omega
    subst ej
    have := apt_all h hq (by omega)
    omega
  · intro e
    have eq : q = i := by omega
    subst eq
    have := apt_all h (show j < n by omega) (by omega)
    rw [sq_comm] at this
    omega
theorem met_near {ds ms : List Int} {k n : Nat} {s : St} (K : Kept (tB n) (tM ds ms k n) n s) {t : Nat} (ht : t < s.m) :
    ∃ j q : Nat, at' s.ps (t * 2) = j ∧ at' s.ps (t * 2 + 1) = q ∧ j < q ∧ q < n ∧ sq (at' (tM ds ms k n) (j * 6)) (at' (tM ds ms k n) (j * 6 + 1)) (at' (tM ds ms k n) (q * 6)) (at' (tM ds ms k n) (q * 6 + 1)) ≤ 34715664 := by
  obtain ⟨j, q, e1, e2, hjq, hq, hN⟩ := K.met t ht
  unfold nearP nearB at hN
  rw [Bool.and_eq_true, decide_eq_true_eq] at hN
  rw [(tB_at (show j < n by omega)).2, (tB_at hq).2] at hN
  exact ⟨j, q, e1, e2, hjq, hq, by omega⟩
theorem sE_over {xs ys : List Int} {n : Nat} {rb dg : Int} (hn : n ≤ 8) (hg : allB xs ys n = true) (hb : bncB rb dg = true) (h : ¬ sE xs ys n n rb dg = 0) : sE xs ys n n rb dg = 4 := by
  unfold sE at h ⊢
  have hl : lE xs ys n n = 0 := by
    unfold lE
    rw [if_neg (by omega), if_pos rfl, hg]; rfl
  rw [if_pos hl] at h ⊢
  rw [if_pos (by rw [hb]; rfl)] at h ⊢
  split at h
  · exact absurd rfl h
  · rfl
end Go.Proofs.YteefjegampdpoaaDoor.M
end
section
namespace Go.Proofs.YteefjegampdpoaaDoor
open Go Go.RowKit Go.Proofs.YteefjegampdpoaaDoor.E2
theorem tta_loop (ds ms : List Int) (n k : Nat) (rb : Int) (TC TD TM : Nat) (hdl : n * 2 ≤ ds.length) (hml : k * 2 ≤ ms.length) (hrb : 0 ≤ rb ∧ rb ≤ 65535) (hrt : 0 ≤ rb.tmod 951 ∧ rb.tmod 951 ≤ 950) (hd : ∀ j : Nat, 0 ≤ at' ds j ∧ at' ds j ≤ 65535) (hm : ∀ j : Nat, -2147483648 ≤ at' ms j ∧ at' ms j ≤ 2147483647) (N : Nat) (hN1 : N ≤ n) (hN2 : N ≤ 6) (hN3 : N = n ∨ N = 6) : Runs cfxg 0 4 none (.loop (loopOf cfxg.P 4 0)) (tta_T ds ms n k rb TC TD TM 0 [] [] 0 0) (tta_H ds ms n k rb TC TD TM 0 [] [] 0 0) (.exit 0) (tta_T3 ds ms n k rb TC TD TM (N : Int) (M.tB N) (M.tM ds ms k N) N N) (tta_H3 ds ms n k rb TC TD TM (N : Int) (M.tB N) (M.tM ds ms k N) N N) :=
  upto (c := cfxg) (lim := 0) (n0 := 4) (x := loopOf cfxg.P 4 0) noRnd (fun i : Nat => tta_T ds ms n k rb TC TD TM i (M.tB i) (M.tM ds ms k i) i i) (fun i : Nat => tta_H ds ms n k rb TC TD TM i (M.tB i) (M.tM ds ms k i) i i) N (e := .exit 0) (by simp)
    (fun i hi => by
      by_cases hk : (i : Int) < k
      · have h := tta_1 ds ms n k rb TC TD TM hdl hml hrb hrt i (M.tB i) (M.tM ds ms k i) i i zo zo rfl rfl (M.tB_len i) (M.tM_len ds ms k i) (hd _) (M.div4 (hd _)) (hm _) (M.mod22 _) (hd _) (M.div4 (hd _)) (hm _) (M.mod22 _) zo zo zo
        simp only [Int.toNat_natCast] at h
        have e : M.tM ds ms k (i + 1) = M.tM ds ms k i ++ [(at' ds (i * 2)).tdiv 4, (at' ds (i * 2 + 1)).tdiv 4, (at' ms (i * 2)).tmod 4194304, (at' ms (i * 2 + 1)).tmod 4194304, 0, 0] := by simp only [M.tM, M.tU, if_pos hk, Nat.add_zero]
        rw [e]
        exact h
      · have h := tta_2 ds ms n k rb TC TD TM hdl hml hrb hrt i (M.tB i) (M.tM ds ms k i) i i zo zo rfl rfl (M.tB_len i) (M.tM_len ds ms k i) (hd _) (M.div4 (hd _)) (hm _) (M.mod22 _) (hd _) (M.div4 (hd _)) (hm _) (M.mod22 _) zo zo zo
        simp only [Int.toNat_natCast] at h
        have e : M.tM ds ms k (i + 1) = M.tM ds ms k i ++ [(at' ds (i * 2)).tdiv 4, (at' ds (i * 2 + 1)).tdiv 4, 0, 0, 0, 0] := by simp only [M.tM, M.tU, if_neg hk, Nat.add_zero]
        rw [e]
        exact h)
    (by
      rcases Nat.lt_or_ge N n with h | h
      · exact tta_3 ds ms n k rb TC TD TM hdl hml hrb hrt N (M.tB N) (M.tM ds ms k N) N N zo zo rfl rfl (M.tB_len N) (M.tM_len ds ms k N) (hd _) (M.div4 (hd _)) (hm _) (M.mod22 _) (hd _) (M.div4 (hd _)) (hm _) (M.mod22 _) zo zo
      · exact tta_4 ds ms n k rb TC TD TM hdl hml hrb hrt N (M.tB N) (M.tM ds ms k N) N N zo zo rfl rfl (M.tB_len N) (M.tM_len ds ms k N) (hd _) (M.div4 (hd _)) (hm _) (M.mod22 _) (hd _) (M.div4 (hd _)) (hm _) (M.mod22 _) zo)
end Go.Proofs.YteefjegampdpoaaDoor
end
section
namespace Go.Proofs.YteefjegampdpoaaDoor.M
def near (x y r : Int) : Bool := decide (-r ≤ x ∧ x ≤ r ∧ -r ≤ y ∧ y ≤ r ∧ x * x + y * y ≤ r * r)
theorem near_yes {x y r : Int} (h1 : -r ≤ x) (h2 : x ≤ r) (h3 : -r ≤ y) (h4 : y ≤ r) (h5 : x * x + y * y ≤ r * r) : near x y r = true := by unfold near; exact decide_eq_true ⟨h1, h2, h3, h4, h5⟩
theorem near_no {x y r : Int} (h : ¬ (-r ≤ x ∧ x ≤ r ∧ -r ≤ y ∧ y ≤ r ∧ x * x + y * y ≤ r * r)) : near x y r = false := by unfold near; exact decide_eq_false h
theorem near_of {x y r : Int} (h : near x y r = true) : -r ≤ x ∧ x ≤ r ∧ -r ≤ y ∧ y ≤ r ∧ x * x + y * y ≤ r * r := by unfold near at h; exact of_decide_eq_true h
theorem near_not {x y r : Int} (h : near x y r = false) : ¬ (-r ≤ x ∧ x ≤ r ∧ -r ≤ y ∧ y ≤ r ∧ x * x + y * y ≤ r * r) := by unfold near at h; exact of_decide_eq_false h
theorem near_neg (x y r : Int) : near (-x) (-y) r = near x y r := by
  have e1 : -x * -x = x * x := by grind
  have e2 : -y * -y = y * y := by grind
  cases h : near x y r
  · have k := near_not h
    refine near_no fun ⟨h1, h2, h3, h4, h5⟩ => k ⟨by omega, by omega, by omega, by omega, by rw [← e1, ← e2]; exact h5⟩
  · obtain ⟨h1, h2, h3, h4, h5⟩ := near_of h
    exact near_yes (by omega) (by omega) (by omega) (by omega) (by rw [e1, e2]; exact h5)
def meet (a b c d r n : Int) (k : Nat) : Bool := near (n * a + k * b) (n * c + k * d) (n * r)
theorem meet_neg (a b c d a' b' c' d' r n : Int) (k : Nat) (e1 : a' = -a) (e2 : b' = -b) (e3 : c' = -c) (e4 : d' = -d) : meet a' b' c' d' r n k = meet a b c d r n k := by
  unfold meet
  rw [e1, e2, e3, e4, show n * -a + k * -b = -(n * a + k * b) from by grind, show n * -c + k * -d = -(n * c + k * d) from by grind, near_neg]
def FirstAt (a b c d r n : Int) (m : Nat) : Prop := (m : Int) ≤ n + 1 ∧ (∀ k : Nat, k < m → meet a b c d r n k = false) ∧ ((m : Int) ≤ n → meet a b c d r n m = true)
theorem FirstAt.neg {a b c d r n : Int} {m : Nat} (h : FirstAt a b c d r n m) (a' b' c' d' : Int) (e1 : a' = -a) (e2 : b' = -b) (e3 : c' = -c) (e4 : d' = -d) : FirstAt a' b' c' d' r n m :=
  ⟨h.1, fun k hk => by rw [meet_neg a b c d a' b' c' d' r n k e1 e2 e3 e4]; exact h.2.1 k hk, fun hk => by rw [meet_neg a b c d a' b' c' d' r n m e1 e2 e3 e4]; exact h.2.2 hk⟩
end Go.Proofs.YteefjegampdpoaaDoor.M
end
section
namespace Go.Proofs.YteefjegampdpoaaDoor
namespace M
variable {p0 p1 q0 q1 v0 v1 w0 w1 : Int}
def s1 (m r a b u v p q : Int) : Int := sel (SET m r a b u v p q) (axT 1 m a u p)
def s2 (m r a b u v p q : Int) : Int := sel (SET m r a b u v p q) (axT 1 m b v q)
def s3 (m r a b u v p q : Int) : Int := sel (SET m r a b u v p q) u
def s4 (m r a b u v p q : Int) : Int := sel (SET m r a b u v p q) v
def s5 (m r a b u v p q : Int) : Int := sel (SET m r a b u v p q) (arT 1 m u p)
end M
end Go.Proofs.YteefjegampdpoaaDoor
end
section
namespace Go.Proofs.YteefjegampdpoaaDoor.M
open Go.Proofs.YteefjegampdpoaaDoor.E2
def hoopB (x y g w : Int) : Bool := btw x 0 4194304 && btw y 0 4194304 && btw g 2 32768 && decide (g.tmod 2 = 0) && btw w 1 8192
def cellB (d x y : Int) : Bool := btw d 0 65536 && btw x (-4096) 4096 && btw y (-4096) 4096
def hoopZ (gs : List Int) (i : Nat) : Bool := hoopB (at' gs (i * 5)) (at' gs (i * 5 + 1)) (at' gs (i * 5 + 2)) (at' gs (i * 5 + 3))
def cellZ (cs : List Int) (i : Nat) : Bool := cellB (at' cs (i * 3)) (at' cs (i * 3 + 1)) (at' cs (i * 3 + 2))
theorem hoop_facts {x y g w : Int} (h : hoopB x y g w = true) : (0 ≤ x ∧ x ≤ 4194304) ∧ (0 ≤ y ∧ y ≤ 4194304) ∧ (2 ≤ g ∧ g ≤ 32768) ∧ (0 ≤ g.tdiv 2 ∧ g.tdiv 2 ≤ 16384) ∧ (1 ≤ w ∧ w ≤ 8192) := by
  simp only [hoopB, Bool.and_eq_true, btw_iff, decide_eq_true_eq] at h
  obtain ⟨⟨⟨⟨h1, h2⟩, h3⟩, h4⟩, h5⟩ := h
  have : g.tdiv 2 = g / 2 := Int.tdiv_eq_ediv_of_nonneg (by omega)
  rw [this]
  omega
def hoopD (gs : List Int) (i : Nat) : Int := (at' gs (i * 5 + 2)).tdiv 2 + at' gs (i * 5 + 3)
def wA (b : Bool) (x d : Int) : Int := if b then x else x - d
def wB (b : Bool) (x d : Int) : Int := if b then x else x + d
def postF (gs : List Int) (k : Nat) : Int :=
  if k % 6 = 0 then wA (nz gs (k / 6 * 5 + 4)) (at' gs (k / 6 * 5)) (hoopD gs (k / 6))
  else if k % 6 = 1 then wA (!nz gs (k / 6 * 5 + 4)) (at' gs (k / 6 * 5 + 1)) (hoopD gs (k / 6))
  else if k % 6 = 3 then wB (nz gs (k / 6 * 5 + 4)) (at' gs (k / 6 * 5)) (hoopD gs (k / 6))
  else if k % 6 = 4 then wB (!nz gs (k / 6 * 5 + 4)) (at' gs (k / 6 * 5 + 1)) (hoopD gs (k / 6))
  else at' gs (k / 6 * 5 + 3)
end Go.Proofs.YteefjegampdpoaaDoor.M
end
section
namespace Go.Proofs.YteefjegampdpoaaDoor
open Go Go.RowKit Go.Proofs.YteefjegampdpoaaDoor.E2
theorem lnBetween_1 (n l h : Int) (f0 : l ≤ n) : Ret cfx 32 [.raw (.int .i64 n), .raw (.int .i64 l), .raw (.int .i64 h)] (V.raw (.bool (decide (n ≤ h)))) := by
  exact fnE (ans := [Ans.go, zT, zT]) (cons := [(decide (l ≤ n) = true), zY]) zk rfl rfl
    ⟨zdf, rfl, trivial⟩
theorem lnBetween_2 (n l h : Int) (f0 : ¬l ≤ n) : Ret cfx 32 [.raw (.int .i64 n), .raw (.int .i64 l), .raw (.int .i64 h)] (V.raw (.bool false)) := by
  exact fnE (ans := [Ans.go, zF, zF]) (cons := [(decide (l ≤ n) = false), zN]) zk rfl rfl
    ⟨zdf, rfl, trivial⟩
theorem lnBetween (n l h : Int) : Ret cfx 32 [.raw (.int .i64 n), .raw (.int .i64 l), .raw (.int .i64 h)] (.raw (.bool (M.btw n l h))) := by
  by_cases f0 : l ≤ n
  ·
    have e : (.raw (.bool (M.btw n l h)) : V) = V.raw (.bool (decide (n ≤ h))) := by (simp_all [M.btw]; try omega)
    rw [e]
    exact lnBetween_1 n l h f0
  ·
    have e : (.raw (.bool (M.btw n l h)) : V) = V.raw (.bool false) := by (simp_all [M.btw]; try omega)
    rw [e]
    exact lnBetween_2 n l h f0
theorem lnIsSlope (n : Int)  : Ret cfx 98 [.raw (.int .i64 n)] (V.raw (.bool (M.btw n (-4096 : Int) 4096))) := by
  exact fnE (ans := [Ans.go, Ans.ret (V.raw (.bool (M.btw n (-4096 : Int) 4096)))]) (cons := [(Ret cfx 32 [iV n, iV (-4096), iV 4096] (V.raw (.bool (M.btw n (-4096 : Int) 4096))))]) zk rfl rfl
    ⟨(lnBetween _ _ _), trivial⟩
def M.overB (x y r u v s : Int) : Bool := decide (M.cmp (M.sq x y u v) ((r + s) * (r + s)) < 0)
theorem lnOverlap0 (x y r u v s : Int) (h1 : chkDisc x y r = 0) (h2 : chkDisc u v s = 0)  : Ret cfx 99 [.raw (.agg #[.int .i64 x, .int .i64 y, .int .i64 r]), .raw (.agg #[.int .i64 u, .int .i64 v, .int .i64 s])] (V.raw (.bool (decide (M.cmp (M.sq x y u v) ((r + s) * (r + s)) < 0)))) := by
  exact fnE (ans := [Ans.go, Ans.ret (V.raw (.tuple { toList := [.int .i64 (M.cmp (M.sq x y u v) ((r + s) * (r + s))), .int .i64 0] }))]) (cons := [(Ret cfx 17 [V.raw (.agg { toList := [.int .i64 x, .int .i64 y, .int .i64 r] }), V.raw (.agg { toList := [.int .i64 u, .int .i64 v, .int .i64 s] })] (V.raw (.tuple { toList := [.int .i64 (M.cmp (M.sq x y u v) ((r + s) * (r + s))), .int .i64 0] })))]) zk rfl rfl
    ⟨(fn_of_calls (args := [.agg #[.int .i64 x, .int .i64 y, .int .i64 r], .agg #[.int .i64 u, .int .i64 v, .int .i64 s]]) fun w => Touch_ok x y r u v s w h1 h2), trivial⟩
theorem lnOverlap (x y r u v s : Int) (h1 : chkDisc x y r = 0) (h2 : chkDisc u v s = 0) : Ret cfx 99 [.raw (.agg #[.int .i64 x, .int .i64 y, .int .i64 r]), .raw (.agg #[.int .i64 u, .int .i64 v, .int .i64 s])] (.raw (.bool (M.overB x y r u v s))) := lnOverlap0 x y r u v s h1 h2
def M.ptB (x y : Int) : Bool := M.btw x (-4194304) 4194304 && M.btw y (-4194304) 4194304
def M.ptE (x y : Int) : Int := if M.ptB x y = true then 0 else 2
def M.radE (r : Int) : Int := if M.btw r 1 16384 = true then 0 else 3
theorem M.ptB_iff {x y : Int} : M.ptB x y = true ↔ (-4194304 ≤ x ∧ x ≤ 4194304) ∧ (-4194304 ≤ y ∧ y ≤ 4194304) := by unfold M.ptB; rw [Bool.and_eq_true, M.btw_iff, M.btw_iff]
theorem M.pt_iff {x y : Int} : M.ptE x y = 0 ↔ (-4194304 ≤ x ∧ x ≤ 4194304) ∧ (-4194304 ≤ y ∧ y ≤ 4194304) := by
  unfold M.ptE
  by_cases k : M.ptB x y = true
  · rw [if_pos k]; exact ⟨fun _ => M.ptB_iff.1 k, fun _ => rfl⟩
  · rw [if_neg k]; exact ⟨fun q => by omega, fun q => absurd (M.ptB_iff.2 q) k⟩
theorem M.pt_or (x y : Int) : M.ptE x y = 0 ∨ M.ptE x y = 2 := by unfold M.ptE; split <;> simp
theorem M.pt_chk (x y : Int) : M.chk [(x, y)] = M.ptE x y := by
  have h : M.okAll [(x, y)] = M.ptB x y := by
    rw [Bool.eq_iff_iff, M.ptB_iff]
    simp [M.okAll, M.fits]
  unfold M.chk M.ptE
  rw [h]
theorem M.rad_iff {r : Int} : M.radE r = 0 ↔ 1 ≤ r ∧ r ≤ 16384 := by
  unfold M.radE
  by_cases k : M.btw r 1 16384 = true
  · rw [if_pos k]; exact ⟨fun _ => M.btw_iff.1 k, fun _ => rfl⟩
  · rw [if_neg k]; exact ⟨fun q => by omega, fun q => absurd (M.btw_iff.2 q) k⟩
def M.othZ (os : List Int) (i : Nat) : Bool := M.ptB (at' os (i * 3)) (at' os (i * 3 + 1)) && M.btw (at' os (i * 3 + 2)) 1 16384
def M.othB (os : List Int) (m : Nat) : Bool := (List.range m).all (M.othZ os)
def M.othE (os : List Int) (m : Nat) : Int := if 12 < m then 6 else if M.othB os m = true then 0 else 2
def M.pick (b : Bool) (x y : Int) : Int := if b = true then x else y
def M.mx (v : Int) : Int := if -v > v then -v else v
def M.tchZ (zs : List Int) (x y s : Int) (i : Nat) : Bool := M.overB x y s (at' zs (i * 3)) (at' zs (i * 3 + 1)) (at' zs (i * 3 + 2))
theorem turfCheck (x y : Int) : Ret cfx 67 [.raw (.agg #[.int .i64 x, .int .i64 y])] (.raw (.int .i64 (M.ptE x y))) :=
  fn_of_calls (args := [.agg #[.int .i64 x, .int .i64 y]]) fun w => by rw [← M.pt_chk]; exact Check_any x y w
theorem lnPoint (x y : Int)  : Ret cfx 25 [.raw (.agg #[.int .i64 x, .int .i64 y])] (iV (M.ptE x y)) := by
  exact fnE (ans := [Ans.go, Ans.ret (iV (M.ptE x y))]) (cons := [(Ret cfx 67 [pV x y] (iV (M.ptE x y)))]) zk rfl rfl
    ⟨(turfCheck _ _), trivial⟩
theorem lnRadius_1 (r : Int) (f0 : M.btw r 1 16384 = false) : Ret cfx 26 [.raw (.int .i64 r)] (iV 3) := by
  exact fnE (ans := [Ans.go, Ans.ret (V.raw (.bool (M.btw r 1 16384))), zT]) (cons := [(Ret cfx 32 [iV r, iV 1, iV 16384] (V.raw (.bool (M.btw r 1 16384)))), ((!M.btw r 1 16384) = true)]) zk rfl rfl
    ⟨(lnBetween _ _ _), zdf, trivial⟩
theorem lnRadius_2 (r : Int) (f0 : M.btw r 1 16384 = true) : Ret cfx 26 [.raw (.int .i64 r)] (iV 0) := by
  exact fnE (ans := [Ans.go, Ans.ret (V.raw (.bool (M.btw r 1 16384))), zF]) (cons := [(Ret cfx 32 [iV r, iV 1, iV 16384] (V.raw (.bool (M.btw r 1 16384)))), ((!M.btw r 1 16384) = false)]) zk rfl rfl
    ⟨(lnBetween _ _ _), zdf, trivial⟩
theorem lnRadius (r : Int) : Ret cfx 26 [.raw (.int .i64 r)] (.raw (.int .i64 (M.radE r))) := by
  by_cases f0 : M.btw r 1 16384 = false
  ·
    have e : (.raw (.int .i64 (M.radE r)) : V) = (iV 3) := by (simp_all [M.radE])
    rw [e]
    exact lnRadius_1 r f0
  ·
    replace f0 : M.btw r 1 16384 = true := by simpa using f0
    have e : (.raw (.int .i64 (M.radE r)) : V) = (iV 0) := by (simp_all [M.radE])
    rw [e]
    exact lnRadius_2 r f0
abbrev zq71 (m : Nat) (i : Int) : List V := (catV [.slo 0 m, uV, iV 0, uV, .any 4, .slo 0 m, iV (m : Int), V.raw (.bool (decide (12 < (m : Int)))), .slo 0 m, iV (m : Int), iV i] (anyR 11 14 []))
def oth_T (os : List Int) (m : Nat) (W : Nat) (i : Int) : List V := (zq71 m i)
def oth_H (os : List Int) (m : Nat) (W : Nat) (i : Int) : Heap := [bkI os W]
abbrev zq72 (m : Nat) (i : Int) : List V := (catV [.slo 0 m, uV, iV 2, uV, .any 4, .slo 0 m, iV (m : Int), V.raw (.bool (decide (12 < (m : Int)))), .slo 0 m, iV (m : Int), iV i] (anyR 11 14 []))
def oth_T1 (os : List Int) (m : Nat) (W : Nat) (i : Int) : List V := (zq72 m i)
def oth_H1 (os : List Int) (m : Nat) (W : Nat) (i : Int) : Heap := [bkI os W]
abbrev zq97 (os : List Int) (i : Int) : Prop := Ret cfx 25 [pV (at' os (i.toNat * 3)) (at' os (i.toNat * 3 + 1))] (iV (M.ptE (at' os (i.toNat * 3)) (at' os (i.toNat * 3 + 1))))
abbrev zq101 (os : List Int) (W : Nat) (i : Int) : Heap := [bkI os W, some (.cells [iV (at' os (i.toNat * 3)), iV (at' os (i.toNat * 3 + 1)), iV (at' os (i.toNat * 3 + 2))] 26 .rw)]
theorem oth_1 (os : List Int) (m : Nat) (W : Nat) (hz : m * 3 ≤ os.length) (hm : m ≤ 12) (i : Int) (hi1 : 0 ≤ i) (f0 : i < (m : Int)) (f1 : ¬M.ptE (at' os (i.toNat * 3)) (at' os (i.toNat * 3 + 1)) = 0) : Runs cfx 0 1 none (loopOf cfx.P 64 0) (oth_T os m W i) (oth_H os m W i) (Ex.ret) (oth_T1 os m W i) (oth_H1 os m W i) := by
  refine Runs.post (t1 := [.slo 0 m, uV, iV 2, uV, .ptr 1 0, .slo 0 m, iV (m : Int), V.raw (.bool (decide (12 < (m : Int)))), .slo 0 m, iV (m : Int), iV i, V.raw (.bool (decide (i < (m : Int)))), V.ptr 0 (i.toNat * 3), (rowV os (i.toNat * 3) 3), .ptr 1 0, (rowV os (i.toNat * 3) 2), iV (M.ptE (at' os (i.toNat * 3)) (at' os (i.toNat * 3 + 1))), V.raw (.bool !decide (M.ptE (at' os (i.toNat * 3)) (at' os (i.toNat * 3 + 1)) = 0)), V.lit true, uV, uV, uV, uV, V.raw (.bool true), .any 24]) (h1 := (zq101 os W i)) (body_of cfx_mixed cfx_call zz (rnd := none) (fi := 0) (k := 0) (n := 40) (n0 := 1) (ans := [zT, Ans.val 0 ((rowV os (i.toNat * 3) 3)), Ans.ret (iV (M.ptE (at' os (i.toNat * 3)) (at' os (i.toNat * 3 + 1)))), zT, zT, zT]) (cons := [(decide (i < (m : Int)) = true), (0 ≤ i ∧ i < (m : Int)), (loadRow cfx 26 (ints os) (i.toNat * 3) = some ((rowV os (i.toNat * 3) 3))), ((zq97 os i)), ((!decide (M.ptE (at' os (i.toNat * 3)) (at' os (i.toNat * 3 + 1)) = 0)) = true), zY, zY]) zk
    ⟨zdo, zo, (load_agg 3 zk zk zb zo), (lnPoint _ _), zdf, rfl, rfl, trivial⟩ zb zb noRnd (noRanges zk)) zt1
def oth_T2 (os : List Int) (m : Nat) (W : Nat) (i : Int) : List V := (zq72 m i)
def oth_H2 (os : List Int) (m : Nat) (W : Nat) (i : Int) : Heap := [bkI os W]
theorem oth_2 (os : List Int) (m : Nat) (W : Nat) (hz : m * 3 ≤ os.length) (hm : m ≤ 12) (i : Int) (hi1 : 0 ≤ i) (f0 : i < (m : Int)) (f1 : M.ptE (at' os (i.toNat * 3)) (at' os (i.toNat * 3 + 1)) = 0) (f2 : ¬M.radE (at' os (i.toNat * 3 + 2)) = 0) : Runs cfx 0 1 none (loopOf cfx.P 64 0) (oth_T os m W i) (oth_H os m W i) (Ex.ret) (oth_T2 os m W i) (oth_H2 os m W i) := by
  refine Runs.post (t1 := [.slo 0 m, uV, iV 2, uV, .ptr 1 0, .slo 0 m, iV (m : Int), V.raw (.bool (decide (12 < (m : Int)))), .slo 0 m, iV (m : Int), iV i, V.raw (.bool (decide (i < (m : Int)))), V.ptr 0 (i.toNat * 3), (rowV os (i.toNat * 3) 3), .ptr 1 0, (rowV os (i.toNat * 3) 2), iV (M.ptE (at' os (i.toNat * 3)) (at' os (i.toNat * 3 + 1))), V.raw (.bool !decide (M.ptE (at' os (i.toNat * 3)) (at' os (i.toNat * 3 + 1)) = 0)), V.lit false, .ptr 1 2, iV (at' os (i.toNat * 3 + 2)), iV (M.radE (at' os (i.toNat * 3 + 2))), V.raw (.bool !decide (M.radE (at' os (i.toNat * 3 + 2)) = 0)), V.raw (.bool !decide (M.radE (at' os (i.toNat * 3 + 2)) = 0)), .any 24]) (h1 := (zq101 os W i)) (body_of cfx_mixed cfx_call zz (rnd := none) (fi := 0) (k := 0) (n := 40) (n0 := 1) (ans := [zT, Ans.val 0 ((rowV os (i.toNat * 3) 3)), Ans.ret (iV (M.ptE (at' os (i.toNat * 3)) (at' os (i.toNat * 3 + 1)))), zF, Ans.ret (iV (M.radE (at' os (i.toNat * 3 + 2)))), zF, zT]) (cons := [(decide (i < (m : Int)) = true), (0 ≤ i ∧ i < (m : Int)), (loadRow cfx 26 (ints os) (i.toNat * 3) = some ((rowV os (i.toNat * 3) 3))), ((zq97 os i)), ((!decide (M.ptE (at' os (i.toNat * 3)) (at' os (i.toNat * 3 + 1)) = 0)) = false), (Ret cfx 26 [iV (at' os (i.toNat * 3 + 2))] (iV (M.radE (at' os (i.toNat * 3 + 2))))), zN, ((!decide (M.radE (at' os (i.toNat * 3 + 2)) = 0)) = true)]) zk
    ⟨zdo, zo, (load_agg 3 zk zk zb zo), (lnPoint _ _), zdf, (lnRadius _), rfl, zdf, trivial⟩ zb zb noRnd (noRanges zk)) zt1
theorem oth_3 (os : List Int) (m : Nat) (W : Nat) (hz : m * 3 ≤ os.length) (hm : m ≤ 12) (i : Int) (hi1 : 0 ≤ i) (f0 : i < (m : Int)) (f1 : M.ptE (at' os (i.toNat * 3)) (at' os (i.toNat * 3 + 1)) = 0) (f2 : M.radE (at' os (i.toNat * 3 + 2)) = 0) : Runs cfx 0 1 none (loopOf cfx.P 64 0) (oth_T os m W i) (oth_H os m W i) (Ex.normal) (oth_T os m W (i + 1)) (oth_H os m W (i + 1)) := by
  refine Runs.post (t1 := [.slo 0 m, uV, iV 0, uV, .ptr 1 0, .slo 0 m, iV (m : Int), V.raw (.bool (decide (12 < (m : Int)))), .slo 0 m, iV (m : Int), iV (i + 1), V.raw (.bool (decide (i < (m : Int)))), V.ptr 0 (i.toNat * 3), (rowV os (i.toNat * 3) 3), .ptr 1 0, (rowV os (i.toNat * 3) 2), iV (M.ptE (at' os (i.toNat * 3)) (at' os (i.toNat * 3 + 1))), V.raw (.bool !decide (M.ptE (at' os (i.toNat * 3)) (at' os (i.toNat * 3 + 1)) = 0)), V.lit false, .ptr 1 2, iV (at' os (i.toNat * 3 + 2)), iV (M.radE (at' os (i.toNat * 3 + 2))), V.raw (.bool !decide (M.radE (at' os (i.toNat * 3 + 2)) = 0)), V.raw (.bool !decide (M.radE (at' os (i.toNat * 3 + 2)) = 0)), iV (i + 1)]) (h1 := (zq101 os W i)) (body_of cfx_mixed cfx_call zz (rnd := none) (fi := 0) (k := 0) (n := 40) (n0 := 1) (ans := [zT, Ans.val 0 ((rowV os (i.toNat * 3) 3)), Ans.ret (iV (M.ptE (at' os (i.toNat * 3)) (at' os (i.toNat * 3 + 1)))), zF, Ans.ret (iV (M.radE (at' os (i.toNat * 3 + 2)))), zF, zF]) (cons := [(decide (i < (m : Int)) = true), (0 ≤ i ∧ i < (m : Int)), (loadRow cfx 26 (ints os) (i.toNat * 3) = some ((rowV os (i.toNat * 3) 3))), ((zq97 os i)), ((!decide (M.ptE (at' os (i.toNat * 3)) (at' os (i.toNat * 3 + 1)) = 0)) = false), (Ret cfx 26 [iV (at' os (i.toNat * 3 + 2))] (iV (M.radE (at' os (i.toNat * 3 + 2))))), zN, ((!decide (M.radE (at' os (i.toNat * 3 + 2)) = 0)) = false), (inR IntKind.i64 (i + 1))]) zk
    ⟨zdo, zo, (load_agg 3 zk zk zb zo), (lnPoint _ _), zdf, (lnRadius _), rfl, zdf, inR_i64 zo zo, trivial⟩ zb zb noRnd (noRanges zk)) zt1
def oth_T4 (os : List Int) (m : Nat) (W : Nat) (i : Int) : List V := (zq71 m i)
def oth_H4 (os : List Int) (m : Nat) (W : Nat) (i : Int) : Heap := [bkI os W]
theorem oth_4 (os : List Int) (m : Nat) (W : Nat) (hz : m * 3 ≤ os.length) (hm : m ≤ 12) (i : Int) (hi1 : 0 ≤ i) (f0 : ¬i < (m : Int)) : Runs cfx 0 1 none (loopOf cfx.P 64 0) (oth_T os m W i) (oth_H os m W i) (Ex.exit 0) (oth_T4 os m W i) (oth_H4 os m W i) := by
  refine Runs.post (t1 := (catV [.slo 0 m, uV, iV 0, uV, .any 4, .slo 0 m, iV (m : Int), V.raw (.bool (decide (12 < (m : Int)))), .slo 0 m, iV (m : Int), iV i, V.raw (.bool (decide (i < (m : Int))))] (anyR 12 13 []))) (h1 := [bkI os W]) (body_of cfx_mixed cfx_call zz (rnd := none) (fi := 0) (k := 0) (n := 40) (n0 := 1) (ans := [zF]) (cons := [(decide (i < (m : Int)) = false)]) zk
    ⟨zdo, trivial⟩ zb zb noRnd (noRanges zk)) zt1
theorem tpCheck (x y : Int) : Ret cfx 67 [.raw (.agg #[.int .i64 x, .int .i64 y])] (.raw (.int .i64 (M.err (M.placeB x y)))) := by
  have h := turfCheck x y
  have e : M.ptE x y = M.err (M.placeB x y) := by
    cases k : M.placeB x y with
    | true =>
      unfold M.placeB at k
      rw [Bool.and_eq_true, M.btw_iff, M.btw_iff] at k
      exact M.pt_iff.2 k
    | false =>
      refine (M.pt_or x y).resolve_left fun e => ?_
      have e2 := M.pt_iff.1 e
      unfold M.placeB at k
      rw [M.btw_iff.2 e2.1, M.btw_iff.2 e2.2] at k
      cases k
  rw [← e]
  exact h
theorem tpDivide {n d : Int} (h1 : -1152921504606846976 ≤ n) (h2 : n ≤ 1152921504606846976) (h3 : 1 ≤ d) (h4 : d ≤ 1152921504606846976) : Ret cfx 49 [.raw (.int .i64 n), .raw (.int .i64 d)] (.raw (.tuple #[.agg #[.int .i64 (M.whole n d), .int .i64 (M.rest n d)], .int .i64 0])) :=
  fn_of_calls (args := [.int .i64 n, .int .i64 d]) fun w => divide_ok n d w h1 h2 h3 h4
theorem tpBetween_1 (n l h : Int) (f0 : l ≤ n) : Ret cfx 80 [.raw (.int .i64 n), .raw (.int .i64 l), .raw (.int .i64 h)] (V.raw (.bool (decide (n ≤ h)))) := by
  exact fnE (ans := [Ans.go, zT, zT]) (cons := [(decide (l ≤ n) = true), zY]) zk rfl rfl
    ⟨zdf, rfl, trivial⟩
theorem tpBetween_2 (n l h : Int) (f0 : ¬l ≤ n) : Ret cfx 80 [.raw (.int .i64 n), .raw (.int .i64 l), .raw (.int .i64 h)] (V.raw (.bool false)) := by
  exact fnE (ans := [Ans.go, zF, zF]) (cons := [(decide (l ≤ n) = false), zN]) zk rfl rfl
    ⟨zdf, rfl, trivial⟩
theorem tpBetween (n l h : Int) : Ret cfx 80 [.raw (.int .i64 n), .raw (.int .i64 l), .raw (.int .i64 h)] (.raw (.bool (M.btw n l h))) := by
  by_cases f0 : l ≤ n
  ·
    have e : (.raw (.bool (M.btw n l h)) : V) = V.raw (.bool (decide (n ≤ h))) := by (simp [M.btw]; omega)
    rw [e]
    exact tpBetween_1 n l h f0
  ·
    have e : (.raw (.bool (M.btw n l h)) : V) = V.raw (.bool false) := by (simp [M.btw]; omega)
    rw [e]
    exact tpBetween_2 n l h f0
theorem tpBall_1 (m r : Int) (f0 : M.btw m 400 500 = false) : Ret cfx 115 [.raw (.agg #[.int .i64 m, .int .i64 r])] (iV 2) := by
  exact fnE (ans := [Ans.go, Ans.ret (V.raw (.bool (M.btw m 400 500))), zT, zT, zT]) (cons := [(Ret cfx 80 [iV m, iV 400, iV 500] (V.raw (.bool (M.btw m 400 500)))), ((!M.btw m 400 500) = true), zY, zY]) zk rfl rfl
    ⟨(tpBetween _ _ _), zdf, rfl, rfl, trivial⟩
theorem tpBall_2 (m r : Int) (f0 : M.btw m 400 500 = true) (f1 : M.btw r 1000 4096 = false) : Ret cfx 115 [.raw (.agg #[.int .i64 m, .int .i64 r])] (iV 2) := by
  exact fnE (ans := [Ans.go, Ans.ret (V.raw (.bool (M.btw m 400 500))), zF, Ans.ret (V.raw (.bool (M.btw r 1000 4096))), zF, zT]) (cons := [(Ret cfx 80 [iV m, iV 400, iV 500] (V.raw (.bool (M.btw m 400 500)))), ((!M.btw m 400 500) = false), (Ret cfx 80 [iV r, iV 1000, iV 4096] (V.raw (.bool (M.btw r 1000 4096)))), zN, ((!M.btw r 1000 4096) = true)]) zk rfl rfl
    ⟨(tpBetween _ _ _), zdf, (tpBetween _ _ _), rfl, zdf, trivial⟩
theorem tpBall_3 (m r : Int) (f0 : M.btw m 400 500 = true) (f1 : M.btw r 1000 4096 = true) : Ret cfx 115 [.raw (.agg #[.int .i64 m, .int .i64 r])] (iV 0) := by
  exact fnE (ans := [Ans.go, Ans.ret (V.raw (.bool (M.btw m 400 500))), zF, Ans.ret (V.raw (.bool (M.btw r 1000 4096))), zF, zF]) (cons := [(Ret cfx 80 [iV m, iV 400, iV 500] (V.raw (.bool (M.btw m 400 500)))), ((!M.btw m 400 500) = false), (Ret cfx 80 [iV r, iV 1000, iV 4096] (V.raw (.bool (M.btw r 1000 4096)))), zN, ((!M.btw r 1000 4096) = false)]) zk rfl rfl
    ⟨(tpBetween _ _ _), zdf, (tpBetween _ _ _), rfl, zdf, trivial⟩
theorem tpBall (m r : Int) : Ret cfx 115 [.raw (.agg #[.int .i64 m, .int .i64 r])] (.raw (.int .i64 (M.err (M.ballB m r)))) := by
  by_cases f0 : M.btw m 400 500 = false
  ·
    have e : (.raw (.int .i64 (M.err (M.ballB m r))) : V) = (iV 2) := by (simp_all [M.ballB])
    rw [e]
    exact tpBall_1 m r f0
  ·
    replace f0 : M.btw m 400 500 = true := by simpa using f0
    by_cases f1 : M.btw r 1000 4096 = false
    ·
      have e : (.raw (.int .i64 (M.err (M.ballB m r))) : V) = (iV 2) := by (simp_all [M.ballB])
      rw [e]
      exact tpBall_2 m r f0 f1
    ·
      replace f1 : M.btw r 1000 4096 = true := by simpa using f1
      have e : (.raw (.int .i64 (M.err (M.ballB m r))) : V) = (iV 0) := by (simp_all [M.ballB])
      rw [e]
      exact tpBall_3 m r f0 f1
theorem tpMom_1 (m r : Int) (f0 : M.btw m (-16777216 : Int) 16777216 = true) : Ret cfx 85 [.raw (.agg #[.int .i64 m, .int .i64 r])] (V.raw (.bool (M.btw r (-16777216 : Int) 16777216))) := by
  exact fnE (ans := [Ans.go, Ans.ret (V.raw (.bool (M.btw m (-16777216 : Int) 16777216))), zT, Ans.ret (V.raw (.bool (M.btw r (-16777216 : Int) 16777216))), zT]) (cons := [(Ret cfx 80 [iV m, iV (-16777216), iV 16777216] (V.raw (.bool (M.btw m (-16777216 : Int) 16777216)))), (M.btw m (-16777216 : Int) 16777216 = true), (Ret cfx 80 [iV r, iV (-16777216), iV 16777216] (V.raw (.bool (M.btw r (-16777216 : Int) 16777216)))), zY]) zk rfl rfl
    ⟨(tpBetween _ _ _), zdf, (tpBetween _ _ _), rfl, trivial⟩
theorem tpMom_2 (m r : Int) (f0 : M.btw m (-16777216 : Int) 16777216 = false) : Ret cfx 85 [.raw (.agg #[.int .i64 m, .int .i64 r])] (V.raw (.bool false)) := by
  exact fnE (ans := [Ans.go, Ans.ret (V.raw (.bool (M.btw m (-16777216 : Int) 16777216))), zF, zF]) (cons := [(Ret cfx 80 [iV m, iV (-16777216), iV 16777216] (V.raw (.bool (M.btw m (-16777216 : Int) 16777216)))), (M.btw m (-16777216 : Int) 16777216 = false), zN]) zk rfl rfl
    ⟨(tpBetween _ _ _), zdf, rfl, trivial⟩
theorem tpMom (m r : Int) : Ret cfx 85 [.raw (.agg #[.int .i64 m, .int .i64 r])] (.raw (.bool (M.momB m r))) := by
  by_cases f0 : M.btw m (-16777216 : Int) 16777216 = true
  ·
    have e : (.raw (.bool (M.momB m r)) : V) = V.raw (.bool (M.btw r (-16777216 : Int) 16777216)) := by (simp_all [M.momB])
    rw [e]
    exact tpMom_1 m r f0
  ·
    replace f0 : M.btw m (-16777216 : Int) 16777216 = false := by simpa using f0
    have e : (.raw (.bool (M.momB m r)) : V) = V.raw (.bool false) := by (simp_all [M.momB])
    rw [e]
    exact tpMom_2 m r f0
theorem tpBnc_1 (m r : Int) (f0 : M.btw m 0 950 = false) : Ret cfx 45 [.raw (.agg #[.int .i64 m, .int .i64 r])] (iV 2) := by
  exact fnE (ans := [Ans.go, Ans.ret (V.raw (.bool (M.btw m 0 950))), zT, zT, zT]) (cons := [(Ret cfx 80 [iV m, iV 0, iV 950] (V.raw (.bool (M.btw m 0 950)))), ((!M.btw m 0 950) = true), zY, zY]) zk rfl rfl
    ⟨(tpBetween _ _ _), zdf, rfl, rfl, trivial⟩
theorem tpBnc_2 (m r : Int) (f0 : M.btw m 0 950 = true) (f1 : M.btw r 0 300 = false) : Ret cfx 45 [.raw (.agg #[.int .i64 m, .int .i64 r])] (iV 2) := by
  exact fnE (ans := [Ans.go, Ans.ret (V.raw (.bool (M.btw m 0 950))), zF, Ans.ret (V.raw (.bool (M.btw r 0 300))), zF, zT]) (cons := [(Ret cfx 80 [iV m, iV 0, iV 950] (V.raw (.bool (M.btw m 0 950)))), ((!M.btw m 0 950) = false), (Ret cfx 80 [iV r, iV 0, iV 300] (V.raw (.bool (M.btw r 0 300)))), zN, ((!M.btw r 0 300) = true)]) zk rfl rfl
    ⟨(tpBetween _ _ _), zdf, (tpBetween _ _ _), rfl, zdf, trivial⟩
theorem tpBnc_3 (m r : Int) (f0 : M.btw m 0 950 = true) (f1 : M.btw r 0 300 = true) : Ret cfx 45 [.raw (.agg #[.int .i64 m, .int .i64 r])] (iV 0) := by
  exact fnE (ans := [Ans.go, Ans.ret (V.raw (.bool (M.btw m 0 950))), zF, Ans.ret (V.raw (.bool (M.btw r 0 300))), zF, zF]) (cons := [(Ret cfx 80 [iV m, iV 0, iV 950] (V.raw (.bool (M.btw m 0 950)))), ((!M.btw m 0 950) = false), (Ret cfx 80 [iV r, iV 0, iV 300] (V.raw (.bool (M.btw r 0 300)))), zN, ((!M.btw r 0 300) = false)]) zk rfl rfl
    ⟨(tpBetween _ _ _), zdf, (tpBetween _ _ _), rfl, zdf, trivial⟩
theorem tpBnc (m r : Int) : Ret cfx 45 [.raw (.agg #[.int .i64 m, .int .i64 r])] (.raw (.int .i64 (M.err (M.bncB m r)))) := by
  by_cases f0 : M.btw m 0 950 = false
  ·
    have e : (.raw (.int .i64 (M.err (M.bncB m r))) : V) = (iV 2) := by (simp_all [M.bncB])
    rw [e]
    exact tpBnc_1 m r f0
  ·
    replace f0 : M.btw m 0 950 = true := by simpa using f0
    by_cases f1 : M.btw r 0 300 = false
    ·
      have e : (.raw (.int .i64 (M.err (M.bncB m r))) : V) = (iV 2) := by (simp_all [M.bncB])
      rw [e]
      exact tpBnc_2 m r f0 f1
    ·
      replace f1 : M.btw r 0 300 = true := by simpa using f1
      have e : (.raw (.int .i64 (M.err (M.bncB m r))) : V) = (iV 0) := by (simp_all [M.bncB])
      rw [e]
      exact tpBnc_3 m r f0 f1
theorem tpRest_1 (p q m : Int) (h1 : 400 ≤ m) (h2 : m ≤ 500) (f0 : M.btw p (-(64 * m).tdiv 2) ((64 * m).tdiv 2 - 1) = true) : Ret cfx 116 [.raw (.agg #[.int .i64 p, .int .i64 q]), .raw (.int .i64 m)] (V.raw (.bool (M.btw q (-(64 * m).tdiv 2) ((64 * m).tdiv 2 - 1)))) := by
  have e : (64 * m).tdiv 2 = 32 * m := by rw [Int.tdiv_eq_ediv_of_nonneg (by omega)]; omega
  exact fnE (ans := [Ans.go, Ans.go, Ans.ret (V.raw (.bool (M.btw p (-(64 * m).tdiv 2) ((64 * m).tdiv 2 - 1)))), zT, Ans.ret (V.raw (.bool (M.btw q (-(64 * m).tdiv 2) ((64 * m).tdiv 2 - 1)))), zT]) (cons := [(inR IntKind.i64 (64 * m)), ((2 : Int) ≠ (0 : Int)), (inR IntKind.i64 ((64 * m).tdiv 2)), (inR IntKind.i64 (-(64 * m).tdiv 2)), (inR IntKind.i64 ((64 * m).tdiv 2 - 1)), (Ret cfx 80 [iV p, iV (-(64 * m).tdiv 2), iV ((64 * m).tdiv 2 - 1)] (V.raw (.bool (M.btw p (-(64 * m).tdiv 2) ((64 * m).tdiv 2 - 1))))), (M.btw p (-(64 * m).tdiv 2) ((64 * m).tdiv 2 - 1) = true), (inR IntKind.i64 (-(64 * m).tdiv 2)), (inR IntKind.i64 ((64 * m).tdiv 2 - 1)), (Ret cfx 80 [iV q, iV (-(64 * m).tdiv 2), iV ((64 * m).tdiv 2 - 1)] (V.raw (.bool (M.btw q (-(64 * m).tdiv 2) ((64 * m).tdiv 2 - 1))))), zY]) zk rfl rfl
    ⟨inR_i64 zo zo, zds, inR_i64 zo zo, inR_i64 zo zo, inR_i64 zo zo, (tpBetween _ _ _), zdf, inR_i64 zo zo, inR_i64 zo zo, (tpBetween _ _ _), rfl, trivial⟩
theorem tpRest_2 (p q m : Int) (h1 : 400 ≤ m) (h2 : m ≤ 500) (f0 : M.btw p (-(64 * m).tdiv 2) ((64 * m).tdiv 2 - 1) = false) : Ret cfx 116 [.raw (.agg #[.int .i64 p, .int .i64 q]), .raw (.int .i64 m)] (V.raw (.bool false)) := by
  have e : (64 * m).tdiv 2 = 32 * m := by rw [Int.tdiv_eq_ediv_of_nonneg (by omega)]; omega
  exact fnE (ans := [Ans.go, Ans.go, Ans.ret (V.raw (.bool (M.btw p (-(64 * m).tdiv 2) ((64 * m).tdiv 2 - 1)))), zF, zF]) (cons := [(inR IntKind.i64 (64 * m)), ((2 : Int) ≠ (0 : Int)), (inR IntKind.i64 ((64 * m).tdiv 2)), (inR IntKind.i64 (-(64 * m).tdiv 2)), (inR IntKind.i64 ((64 * m).tdiv 2 - 1)), (Ret cfx 80 [iV p, iV (-(64 * m).tdiv 2), iV ((64 * m).tdiv 2 - 1)] (V.raw (.bool (M.btw p (-(64 * m).tdiv 2) ((64 * m).tdiv 2 - 1))))), (M.btw p (-(64 * m).tdiv 2) ((64 * m).tdiv 2 - 1) = false), zN]) zk rfl rfl
    ⟨inR_i64 zo zo, zds, inR_i64 zo zo, inR_i64 zo zo, inR_i64 zo zo, (tpBetween _ _ _), zdf, rfl, trivial⟩
theorem tpRest (p q m : Int) (h1 : 400 ≤ m) (h2 : m ≤ 500) : Ret cfx 116 [.raw (.agg #[.int .i64 p, .int .i64 q]), .raw (.int .i64 m)] (.raw (.bool (M.restB p q m))) := by
  have e : (64 * m).tdiv 2 = 32 * m := by rw [Int.tdiv_eq_ediv_of_nonneg (by omega)]; omega
  by_cases f0 : M.btw p (-(64 * m).tdiv 2) ((64 * m).tdiv 2 - 1) = true
  ·
    have e : (.raw (.bool (M.restB p q m)) : V) = V.raw (.bool (M.btw q (-(64 * m).tdiv 2) ((64 * m).tdiv 2 - 1))) := by (simp_all [M.restB])
    rw [e]
    exact tpRest_1 p q m h1 h2 f0
  ·
    replace f0 : M.btw p (-(64 * m).tdiv 2) ((64 * m).tdiv 2 - 1) = false := by simpa using f0
    have e : (.raw (.bool (M.restB p q m)) : V) = V.raw (.bool false) := by (simp_all [M.restB])
    rw [e]
    exact tpRest_2 p q m h1 h2 f0
abbrev zq111 (m : Int) (r : Int) : Prop := Ret cfx 115 [pV m r] (iV (M.err (M.ballB m r)))
theorem tpMotion_1 (m r a b u v p q : Int) (f0 : ¬M.err (M.ballB m r) = 0) : Ret cfx 87 [.raw (.agg #[.int .i64 m, .int .i64 r]), .raw (.agg #[.int .i64 a, .int .i64 b, .int .i64 u, .int .i64 v, .int .i64 p, .int .i64 q])] (iV 2) := by
  exact fnE (ans := [Ans.go, Ans.ret (iV (M.err (M.ballB m r))), zT, zT, zT, zT, zT, zT, zT]) (cons := [((zq111 m r)), ((!decide (M.err (M.ballB m r) = 0)) = true), zY, zY, zY, zY, zY, zY]) zk rfl rfl
    ⟨(tpBall _ _), zdf, rfl, rfl, rfl, rfl, rfl, rfl, trivial⟩
abbrev zq112 (a : Int) (b : Int) : Prop := Ret cfx 67 [pV a b] (iV (M.err (M.placeB a b)))
theorem tpMotion_2 (m r a b u v p q : Int) (f0 : M.err (M.ballB m r) = 0) (f1 : ¬M.err (M.placeB a b) = 0) : Ret cfx 87 [.raw (.agg #[.int .i64 m, .int .i64 r]), .raw (.agg #[.int .i64 a, .int .i64 b, .int .i64 u, .int .i64 v, .int .i64 p, .int .i64 q])] (iV 2) := by
  exact fnE (ans := [Ans.go, Ans.ret (iV (M.err (M.ballB m r))), zF, Ans.ret (iV (M.err (M.placeB a b))), zF, zT, zT, zT, zT, zT]) (cons := [((zq111 m r)), ((!decide (M.err (M.ballB m r) = 0)) = false), ((zq112 a b)), zN, ((!decide (M.err (M.placeB a b) = 0)) = true), zY, zY, zY, zY]) zk rfl rfl
    ⟨(tpBall _ _), zdf, (tpCheck _ _), rfl, zdf, rfl, rfl, rfl, rfl, trivial⟩
theorem tpMotion_3 (m r a b u v p q : Int) (f0 : M.err (M.ballB m r) = 0) (f1 : M.err (M.placeB a b) = 0) (f2 : M.momB u v = false) : Ret cfx 87 [.raw (.agg #[.int .i64 m, .int .i64 r]), .raw (.agg #[.int .i64 a, .int .i64 b, .int .i64 u, .int .i64 v, .int .i64 p, .int .i64 q])] (iV 2) := by
  exact fnE (ans := [Ans.go, Ans.ret (iV (M.err (M.ballB m r))), zF, Ans.ret (iV (M.err (M.placeB a b))), zF, zF, Ans.ret (V.raw (.bool (M.momB u v))), zF, zT, zT, zT]) (cons := [((zq111 m r)), ((!decide (M.err (M.ballB m r) = 0)) = false), ((zq112 a b)), zN, ((!decide (M.err (M.placeB a b) = 0)) = false), (Ret cfx 85 [pV u v] (V.raw (.bool (M.momB u v)))), zN, ((!M.momB u v) = true), zY, zY]) zk rfl rfl
    ⟨(tpBall _ _), zdf, (tpCheck _ _), rfl, zdf, (tpMom _ _), rfl, zdf, rfl, rfl, trivial⟩
theorem tpMotion_4 (m r a b u v p q : Int) (f0 : M.err (M.ballB m r) = 0) (f1 : M.err (M.placeB a b) = 0) (f2 : M.momB u v = true) (f3 : M.restB p q m = false) : Ret cfx 87 [.raw (.agg #[.int .i64 m, .int .i64 r]), .raw (.agg #[.int .i64 a, .int .i64 b, .int .i64 u, .int .i64 v, .int .i64 p, .int .i64 q])] (iV 2) := by
  exact fnE (ans := [Ans.go, Ans.ret (iV (M.err (M.ballB m r))), zF, Ans.ret (iV (M.err (M.placeB a b))), zF, zF, Ans.ret (V.raw (.bool (M.momB u v))), zF, zF, Ans.ret (V.raw (.bool (M.restB p q m))), zF, zT]) (cons := [((zq111 m r)), ((!decide (M.err (M.ballB m r) = 0)) = false), ((zq112 a b)), zN, ((!decide (M.err (M.placeB a b) = 0)) = false), (Ret cfx 85 [pV u v] (V.raw (.bool (M.momB u v)))), zN, ((!M.momB u v) = false), (Ret cfx 116 [pV p q, iV m] (V.raw (.bool (M.restB p q m)))), zN, ((!M.restB p q m) = true)]) zk rfl rfl
    ⟨(tpBall _ _), zdf, (tpCheck _ _), rfl, zdf, (tpMom _ _), rfl, zdf, (tpRest _ _ _ (M.ballB_lo f0) (M.ballB_hi f0)), rfl, zdf, trivial⟩
theorem tpMotion_5 (m r a b u v p q : Int) (f0 : M.err (M.ballB m r) = 0) (f1 : M.err (M.placeB a b) = 0) (f2 : M.momB u v = true) (f3 : M.restB p q m = true) : Ret cfx 87 [.raw (.agg #[.int .i64 m, .int .i64 r]), .raw (.agg #[.int .i64 a, .int .i64 b, .int .i64 u, .int .i64 v, .int .i64 p, .int .i64 q])] (iV 0) := by
  exact fnE (ans := [Ans.go, Ans.ret (iV (M.err (M.ballB m r))), zF, Ans.ret (iV (M.err (M.placeB a b))), zF, zF, Ans.ret (V.raw (.bool (M.momB u v))), zF, zF, Ans.ret (V.raw (.bool (M.restB p q m))), zF, zF]) (cons := [((zq111 m r)), ((!decide (M.err (M.ballB m r) = 0)) = false), ((zq112 a b)), zN, ((!decide (M.err (M.placeB a b) = 0)) = false), (Ret cfx 85 [pV u v] (V.raw (.bool (M.momB u v)))), zN, ((!M.momB u v) = false), (Ret cfx 116 [pV p q, iV m] (V.raw (.bool (M.restB p q m)))), zN, ((!M.restB p q m) = false)]) zk rfl rfl
    ⟨(tpBall _ _), zdf, (tpCheck _ _), rfl, zdf, (tpMom _ _), rfl, zdf, (tpRest _ _ _ (M.ballB_lo f0) (M.ballB_hi f0)), rfl, zdf, trivial⟩
theorem tpMotion (m r a b u v p q : Int) : Ret cfx 87 [.raw (.agg #[.int .i64 m, .int .i64 r]), .raw (.agg #[.int .i64 a, .int .i64 b, .int .i64 u, .int .i64 v, .int .i64 p, .int .i64 q])] (.raw (.int .i64 (M.err (M.motB m r a b u v p q)))) := by
  by_cases f0 : ¬M.err (M.ballB m r) = 0
  ·
    have e : (.raw (.int .i64 (M.err (M.motB m r a b u v p q))) : V) = (iV 2) := by (simp_all [M.motB, M.err_eq])
    rw [e]
    exact tpMotion_1 m r a b u v p q f0
  ·
    replace f0 : M.err (M.ballB m r) = 0 := by simpa using f0
    by_cases f1 : ¬M.err (M.placeB a b) = 0
    ·
      have e : (.raw (.int .i64 (M.err (M.motB m r a b u v p q))) : V) = (iV 2) := by (simp_all [M.motB, M.err_eq])
      rw [e]
      exact tpMotion_2 m r a b u v p q f0 f1
    ·
      replace f1 : M.err (M.placeB a b) = 0 := by simpa using f1
      by_cases f2 : M.momB u v = false
      ·
        have e : (.raw (.int .i64 (M.err (M.motB m r a b u v p q))) : V) = (iV 2) := by (simp_all [M.motB, M.err_eq])
        rw [e]
        exact tpMotion_3 m r a b u v p q f0 f1 f2
      ·
        replace f2 : M.momB u v = true := by simpa using f2
        by_cases f3 : M.restB p q m = false
        ·
          have e : (.raw (.int .i64 (M.err (M.motB m r a b u v p q))) : V) = (iV 2) := by (simp_all [M.motB, M.err_eq])
          rw [e]
          exact tpMotion_4 m r a b u v p q f0 f1 f2 f3
        ·
          replace f3 : M.restB p q m = true := by simpa using f3
          have e : (.raw (.int .i64 (M.err (M.motB m r a b u v p q))) : V) = (iV 0) := by (simp_all [M.motB, M.err_eq])
          rw [e]
          exact tpMotion_5 m r a b u v p q f0 f1 f2 f3
abbrev zq91 (u : Int) (p : Int) (m : Int) : Prop := Ret cfx 49 [iV (1 * u + p), iV (64 * m)] (V.raw (.tuple { toList := [.agg { toList := [.int .i64 (M.whole (1 * u + p) (64 * m)), .int .i64 (M.rest (1 * u + p) (64 * m))] }, .int .i64 0] }))
abbrev zq92 (v : Int) (q : Int) (m : Int) : Prop := Ret cfx 49 [iV (1 * v + q), iV (64 * m)] (V.raw (.tuple { toList := [.agg { toList := [.int .i64 (M.whole (1 * v + q) (64 * m)), .int .i64 (M.rest (1 * v + q) (64 * m))] }, .int .i64 0] }))
theorem tpAfter_1 (m r a b u v p q : Int) (h1 : M.motB m r a b u v p q = true) (f0 : ¬M.err (M.placeB (a + M.whole (1 * u + p) (64 * m)) (b + M.whole (1 * v + q) (64 * m))) = 0) : Ret cfx 88 [.raw (.agg #[.int .i64 m, .int .i64 r, .int .i64 a, .int .i64 b, .int .i64 u, .int .i64 v, .int .i64 p, .int .i64 q]), .raw (.int .i64 1)] (V.raw (.tuple { toList := [.agg { toList := [.int .i64 0, .int .i64 0, .int .i64 0, .int .i64 0, .int .i64 0, .int .i64 0] }, .int .i64 4] })) := by
  obtain ⟨⟨hm1, hr1⟩, ⟨ha1, hb1⟩, ⟨hu1, hv1⟩, ⟨hp1, hq1⟩⟩ := M.tp_mot h1
  obtain ⟨_, _⟩ := M.tp_step (m := m) (u := u) (p := p) hm1 hu1 hp1
  obtain ⟨_, _⟩ := M.tp_step (m := m) (u := v) (p := q) hm1 hv1 hq1
  have ew1 : M.whole (1 * u + p) (64 * m) = M.whole (u + p) (64 * m) := by rw [Int.one_mul]
  have ew2 : M.whole (1 * v + q) (64 * m) = M.whole (v + q) (64 * m) := by rw [Int.one_mul]
  exact fnE (ans := [Ans.go, Ans.olds [(9, 48)], Ans.go, Ans.go, Ans.olds [], Ans.go, Ans.go, Ans.olds [(22, 18)], Ans.go, Ans.go, Ans.go, Ans.ret (V.raw (.tuple { toList := [.agg { toList := [.int .i64 (M.whole (1 * u + p) (64 * m)), .int .i64 (M.rest (1 * u + p) (64 * m))] }, .int .i64 0] })), Ans.go, Ans.olds [], Ans.go, Ans.go, Ans.olds [(22, 28)], Ans.go, Ans.go, Ans.go, Ans.ret (V.raw (.tuple { toList := [.agg { toList := [.int .i64 (M.whole (1 * v + q) (64 * m)), .int .i64 (M.rest (1 * v + q) (64 * m))] }, .int .i64 0] })), Ans.go, Ans.go, Ans.go, Ans.olds [(22, 38)], Ans.go, Ans.go, Ans.go, Ans.ret (V.raw (.tuple { toList := [.agg { toList := [.int .i64 (M.whole (1 * u + p) (64 * m)), .int .i64 (M.rest (1 * u + p) (64 * m))] }, .int .i64 0] })), Ans.go, Ans.go, Ans.olds [(22, 46)], Ans.go, Ans.go, Ans.go, Ans.ret (V.raw (.tuple { toList := [.agg { toList := [.int .i64 (M.whole (1 * v + q) (64 * m)), .int .i64 (M.rest (1 * v + q) (64 * m))] }, .int .i64 0] })), Ans.ret (iV (M.err (M.placeB (a + M.whole (1 * u + p) (64 * m)) (b + M.whole (1 * v + q) (64 * m))))), zT]) (cons := [(inR IntKind.i64 (1 * u)), (inR IntKind.i64 (1 * u + p)), (inR IntKind.i64 (64 * m)), ((zq91 u p m)), (inR IntKind.i64 (a + M.whole (1 * u + p) (64 * m))), (inR IntKind.i64 (1 * v)), (inR IntKind.i64 (1 * v + q)), (inR IntKind.i64 (64 * m)), ((zq92 v q m)), (inR IntKind.i64 (b + M.whole (1 * v + q) (64 * m))), (inR IntKind.i64 (1 * u)), (inR IntKind.i64 (1 * u + p)), (inR IntKind.i64 (64 * m)), ((zq91 u p m)), (inR IntKind.i64 (1 * v)), (inR IntKind.i64 (1 * v + q)), (inR IntKind.i64 (64 * m)), ((zq92 v q m)), (Ret cfx 67 [pV (a + M.whole (1 * u + p) (64 * m)) (b + M.whole (1 * v + q) (64 * m))] (iV (M.err (M.placeB (a + M.whole (1 * u + p) (64 * m)) (b + M.whole (1 * v + q) (64 * m)))))), ((!decide (M.err (M.placeB (a + M.whole (1 * u + p) (64 * m)) (b + M.whole (1 * v + q) (64 * m))) = 0)) = true)]) zk rfl rfl
    ⟨inR_i64 zo zo, inR_i64 zo zo, inR_i64 zo zo, (tpDivide zo zo zo zo), inR_i64 zo zo, inR_i64 zo zo, inR_i64 zo zo, inR_i64 zo zo, (tpDivide zo zo zo zo), inR_i64 zo zo, inR_i64 zo zo, inR_i64 zo zo, inR_i64 zo zo, (tpDivide zo zo zo zo), inR_i64 zo zo, inR_i64 zo zo, inR_i64 zo zo, (tpDivide zo zo zo zo), (tpCheck _ _), zdf, trivial⟩
theorem tpAfter_2 (m r a b u v p q : Int) (h1 : M.motB m r a b u v p q = true) (f0 : M.err (M.placeB (a + M.whole (1 * u + p) (64 * m)) (b + M.whole (1 * v + q) (64 * m))) = 0) : Ret cfx 88 [.raw (.agg #[.int .i64 m, .int .i64 r, .int .i64 a, .int .i64 b, .int .i64 u, .int .i64 v, .int .i64 p, .int .i64 q]), .raw (.int .i64 1)] (V.raw (.tuple { toList := [.agg { toList := [.int .i64 (a + M.whole (1 * u + p) (64 * m)), .int .i64 (b + M.whole (1 * v + q) (64 * m)), .int .i64 u, .int .i64 v, .int .i64 (M.rest (1 * u + p) (64 * m)), .int .i64 (M.rest (1 * v + q) (64 * m))] }, .int .i64 0] })) := by
  obtain ⟨⟨hm1, hr1⟩, ⟨ha1, hb1⟩, ⟨hu1, hv1⟩, ⟨hp1, hq1⟩⟩ := M.tp_mot h1
  obtain ⟨_, _⟩ := M.tp_step (m := m) (u := u) (p := p) hm1 hu1 hp1
  obtain ⟨_, _⟩ := M.tp_step (m := m) (u := v) (p := q) hm1 hv1 hq1
  have ew1 : M.whole (1 * u + p) (64 * m) = M.whole (u + p) (64 * m) := by rw [Int.one_mul]
  have ew2 : M.whole (1 * v + q) (64 * m) = M.whole (v + q) (64 * m) := by rw [Int.one_mul]
  exact fnE (ans := [Ans.go, Ans.olds [(9, 48)], Ans.go, Ans.go, Ans.olds [], Ans.go, Ans.go, Ans.olds [(22, 18)], Ans.go, Ans.go, Ans.go, Ans.ret (V.raw (.tuple { toList := [.agg { toList := [.int .i64 (M.whole (1 * u + p) (64 * m)), .int .i64 (M.rest (1 * u + p) (64 * m))] }, .int .i64 0] })), Ans.go, Ans.olds [], Ans.go, Ans.go, Ans.olds [(22, 28)], Ans.go, Ans.go, Ans.go, Ans.ret (V.raw (.tuple { toList := [.agg { toList := [.int .i64 (M.whole (1 * v + q) (64 * m)), .int .i64 (M.rest (1 * v + q) (64 * m))] }, .int .i64 0] })), Ans.go, Ans.go, Ans.go, Ans.olds [(22, 38)], Ans.go, Ans.go, Ans.go, Ans.ret (V.raw (.tuple { toList := [.agg { toList := [.int .i64 (M.whole (1 * u + p) (64 * m)), .int .i64 (M.rest (1 * u + p) (64 * m))] }, .int .i64 0] })), Ans.go, Ans.go, Ans.olds [(22, 46)], Ans.go, Ans.go, Ans.go, Ans.ret (V.raw (.tuple { toList := [.agg { toList := [.int .i64 (M.whole (1 * v + q) (64 * m)), .int .i64 (M.rest (1 * v + q) (64 * m))] }, .int .i64 0] })), Ans.ret (iV (M.err (M.placeB (a + M.whole (1 * u + p) (64 * m)) (b + M.whole (1 * v + q) (64 * m))))), zF]) (cons := [(inR IntKind.i64 (1 * u)), (inR IntKind.i64 (1 * u + p)), (inR IntKind.i64 (64 * m)), ((zq91 u p m)), (inR IntKind.i64 (a + M.whole (1 * u + p) (64 * m))), (inR IntKind.i64 (1 * v)), (inR IntKind.i64 (1 * v + q)), (inR IntKind.i64 (64 * m)), ((zq92 v q m)), (inR IntKind.i64 (b + M.whole (1 * v + q) (64 * m))), (inR IntKind.i64 (1 * u)), (inR IntKind.i64 (1 * u + p)), (inR IntKind.i64 (64 * m)), ((zq91 u p m)), (inR IntKind.i64 (1 * v)), (inR IntKind.i64 (1 * v + q)), (inR IntKind.i64 (64 * m)), ((zq92 v q m)), (Ret cfx 67 [pV (a + M.whole (1 * u + p) (64 * m)) (b + M.whole (1 * v + q) (64 * m))] (iV (M.err (M.placeB (a + M.whole (1 * u + p) (64 * m)) (b + M.whole (1 * v + q) (64 * m)))))), ((!decide (M.err (M.placeB (a + M.whole (1 * u + p) (64 * m)) (b + M.whole (1 * v + q) (64 * m))) = 0)) = false)]) zk rfl rfl
    ⟨inR_i64 zo zo, inR_i64 zo zo, inR_i64 zo zo, (tpDivide zo zo zo zo), inR_i64 zo zo, inR_i64 zo zo, inR_i64 zo zo, inR_i64 zo zo, (tpDivide zo zo zo zo), inR_i64 zo zo, inR_i64 zo zo, inR_i64 zo zo, inR_i64 zo zo, (tpDivide zo zo zo zo), inR_i64 zo zo, inR_i64 zo zo, inR_i64 zo zo, (tpDivide zo zo zo zo), (tpCheck _ _), zdf, trivial⟩
theorem tpAfter (m r a b u v p q : Int) (h1 : M.motB m r a b u v p q = true) : Ret cfx 88 [.raw (.agg #[.int .i64 m, .int .i64 r, .int .i64 a, .int .i64 b, .int .i64 u, .int .i64 v, .int .i64 p, .int .i64 q]), .raw (.int .i64 1)] (.raw (.tuple #[.agg #[.int .i64 (M.sel (M.AET 1 m a b u v p q) (M.axT 1 m a u p)), .int .i64 (M.sel (M.AET 1 m a b u v p q) (M.axT 1 m b v q)), .int .i64 (M.sel (M.AET 1 m a b u v p q) u), .int .i64 (M.sel (M.AET 1 m a b u v p q) v), .int .i64 (M.sel (M.AET 1 m a b u v p q) (M.arT 1 m u p)), .int .i64 (M.sel (M.AET 1 m a b u v p q) (M.arT 1 m v q))], .int .i64 (M.AET 1 m a b u v p q)])) := by
  obtain ⟨⟨hm1, hr1⟩, ⟨ha1, hb1⟩, ⟨hu1, hv1⟩, ⟨hp1, hq1⟩⟩ := M.tp_mot h1
  obtain ⟨_, _⟩ := M.tp_step (m := m) (u := u) (p := p) hm1 hu1 hp1
  obtain ⟨_, _⟩ := M.tp_step (m := m) (u := v) (p := q) hm1 hv1 hq1
  have ew1 : M.whole (1 * u + p) (64 * m) = M.whole (u + p) (64 * m) := by rw [Int.one_mul]
  have ew2 : M.whole (1 * v + q) (64 * m) = M.whole (v + q) (64 * m) := by rw [Int.one_mul]
  by_cases f0 : ¬M.err (M.placeB (a + M.whole (1 * u + p) (64 * m)) (b + M.whole (1 * v + q) (64 * m))) = 0
  ·
    have e : (.raw (.tuple #[.agg #[.int .i64 (M.sel (M.AET 1 m a b u v p q) (M.axT 1 m a u p)), .int .i64 (M.sel (M.AET 1 m a b u v p q) (M.axT 1 m b v q)), .int .i64 (M.sel (M.AET 1 m a b u v p q) u), .int .i64 (M.sel (M.AET 1 m a b u v p q) v), .int .i64 (M.sel (M.AET 1 m a b u v p q) (M.arT 1 m u p)), .int .i64 (M.sel (M.AET 1 m a b u v p q) (M.arT 1 m v q))], .int .i64 (M.AET 1 m a b u v p q)]) : V) = V.raw (.tuple { toList := [.agg { toList := [.int .i64 0, .int .i64 0, .int .i64 0, .int .i64 0, .int .i64 0, .int .i64 0] }, .int .i64 4] }) := by (simp_all [M.AET, M.axT, M.arT, M.sel, M.err_eq])
    rw [e]
    exact tpAfter_1 m r a b u v p q h1 f0
  ·
    replace f0 : M.err (M.placeB (a + M.whole (1 * u + p) (64 * m)) (b + M.whole (1 * v + q) (64 * m))) = 0 := by simpa using f0
    have e : (.raw (.tuple #[.agg #[.int .i64 (M.sel (M.AET 1 m a b u v p q) (M.axT 1 m a u p)), .int .i64 (M.sel (M.AET 1 m a b u v p q) (M.axT 1 m b v q)), .int .i64 (M.sel (M.AET 1 m a b u v p q) u), .int .i64 (M.sel (M.AET 1 m a b u v p q) v), .int .i64 (M.sel (M.AET 1 m a b u v p q) (M.arT 1 m u p)), .int .i64 (M.sel (M.AET 1 m a b u v p q) (M.arT 1 m v q))], .int .i64 (M.AET 1 m a b u v p q)]) : V) = V.raw (.tuple { toList := [.agg { toList := [.int .i64 (a + M.whole (1 * u + p) (64 * m)), .int .i64 (b + M.whole (1 * v + q) (64 * m)), .int .i64 u, .int .i64 v, .int .i64 (M.rest (1 * u + p) (64 * m)), .int .i64 (M.rest (1 * v + q) (64 * m))] }, .int .i64 0] }) := by (simp_all [M.AET, M.axT, M.arT, M.sel, M.err_eq])
    rw [e]
    exact tpAfter_2 m r a b u v p q h1 f0
theorem tpStep_1 (m r a b u v p q : Int) (f0 : ¬M.err (M.motB m r a b u v p q) = 0) : Ret cfx 52 [.raw (.agg #[.int .i64 m, .int .i64 r]), .raw (.agg #[.int .i64 a, .int .i64 b, .int .i64 u, .int .i64 v, .int .i64 p, .int .i64 q])] (V.raw (.tuple { toList := [.agg { toList := [.int .i64 0, .int .i64 0, .int .i64 0, .int .i64 0, .int .i64 0, .int .i64 0] }, .int .i64 (M.err (M.motB m r a b u v p q))] })) := by
  exact fnE (ans := [Ans.go, Ans.ret (iV (M.err (M.motB m r a b u v p q))), zT]) (cons := [(Ret cfx 87 [pV m r, V.raw (.agg { toList := [.int .i64 a, .int .i64 b, .int .i64 u, .int .i64 v, .int .i64 p, .int .i64 q] })] (iV (M.err (M.motB m r a b u v p q)))), ((!decide (M.err (M.motB m r a b u v p q) = 0)) = true)]) zk rfl rfl
    ⟨(tpMotion _ _ _ _ _ _ _ _), zdf, trivial⟩
theorem tpStep_2 (m r a b u v p q : Int) (f0 : M.err (M.motB m r a b u v p q) = 0) : Ret cfx 52 [.raw (.agg #[.int .i64 m, .int .i64 r]), .raw (.agg #[.int .i64 a, .int .i64 b, .int .i64 u, .int .i64 v, .int .i64 p, .int .i64 q])] (V.raw (.tuple { toList := [.agg { toList := [.int .i64 (M.sel (M.AET 1 m a b u v p q) (M.axT 1 m a u p)), .int .i64 (M.sel (M.AET 1 m a b u v p q) (M.axT 1 m b v q)), .int .i64 (M.sel (M.AET 1 m a b u v p q) u), .int .i64 (M.sel (M.AET 1 m a b u v p q) v), .int .i64 (M.sel (M.AET 1 m a b u v p q) (M.arT 1 m u p)), .int .i64 (M.sel (M.AET 1 m a b u v p q) (M.arT 1 m v q))] }, .int .i64 (M.AET 1 m a b u v p q)] })) := by
  exact fnE (ans := [Ans.go, Ans.ret (iV (M.err (M.motB m r a b u v p q))), zF, Ans.ret (V.raw (.tuple { toList := [.agg { toList := [.int .i64 (M.sel (M.AET 1 m a b u v p q) (M.axT 1 m a u p)), .int .i64 (M.sel (M.AET 1 m a b u v p q) (M.axT 1 m b v q)), .int .i64 (M.sel (M.AET 1 m a b u v p q) u), .int .i64 (M.sel (M.AET 1 m a b u v p q) v), .int .i64 (M.sel (M.AET 1 m a b u v p q) (M.arT 1 m u p)), .int .i64 (M.sel (M.AET 1 m a b u v p q) (M.arT 1 m v q))] }, .int .i64 (M.AET 1 m a b u v p q)] }))]) (cons := [(Ret cfx 87 [pV m r, V.raw (.agg { toList := [.int .i64 a, .int .i64 b, .int .i64 u, .int .i64 v, .int .i64 p, .int .i64 q] })] (iV (M.err (M.motB m r a b u v p q)))), ((!decide (M.err (M.motB m r a b u v p q) = 0)) = false), (Ret cfx 88 [V.raw (.agg { toList := [.int .i64 m, .int .i64 r, .int .i64 a, .int .i64 b, .int .i64 u, .int .i64 v, .int .i64 p, .int .i64 q] }), iV 1] (V.raw (.tuple { toList := [.agg { toList := [.int .i64 (M.sel (M.AET 1 m a b u v p q) (M.axT 1 m a u p)), .int .i64 (M.sel (M.AET 1 m a b u v p q) (M.axT 1 m b v q)), .int .i64 (M.sel (M.AET 1 m a b u v p q) u), .int .i64 (M.sel (M.AET 1 m a b u v p q) v), .int .i64 (M.sel (M.AET 1 m a b u v p q) (M.arT 1 m u p)), .int .i64 (M.sel (M.AET 1 m a b u v p q) (M.arT 1 m v q))] }, .int .i64 (M.AET 1 m a b u v p q)] })))]) zk rfl rfl
    ⟨(tpMotion _ _ _ _ _ _ _ _), zdf, (tpAfter _ _ _ _ _ _ _ _ (M.err_eq.1 (by assumption))), trivial⟩
theorem tpStep (m r a b u v p q : Int) : Ret cfx 52 [.raw (.agg #[.int .i64 m, .int .i64 r]), .raw (.agg #[.int .i64 a, .int .i64 b, .int .i64 u, .int .i64 v, .int .i64 p, .int .i64 q])] (.raw (.tuple #[.agg #[.int .i64 (M.sel (M.SET m r a b u v p q) (M.axT 1 m a u p)), .int .i64 (M.sel (M.SET m r a b u v p q) (M.axT 1 m b v q)), .int .i64 (M.sel (M.SET m r a b u v p q) u), .int .i64 (M.sel (M.SET m r a b u v p q) v), .int .i64 (M.sel (M.SET m r a b u v p q) (M.arT 1 m u p)), .int .i64 (M.sel (M.SET m r a b u v p q) (M.arT 1 m v q))], .int .i64 (M.SET m r a b u v p q)])) := by
  by_cases f0 : ¬M.err (M.motB m r a b u v p q) = 0
  ·
    have e : (.raw (.tuple #[.agg #[.int .i64 (M.sel (M.SET m r a b u v p q) (M.axT 1 m a u p)), .int .i64 (M.sel (M.SET m r a b u v p q) (M.axT 1 m b v q)), .int .i64 (M.sel (M.SET m r a b u v p q) u), .int .i64 (M.sel (M.SET m r a b u v p q) v), .int .i64 (M.sel (M.SET m r a b u v p q) (M.arT 1 m u p)), .int .i64 (M.sel (M.SET m r a b u v p q) (M.arT 1 m v q))], .int .i64 (M.SET m r a b u v p q)]) : V) = V.raw (.tuple { toList := [.agg { toList := [.int .i64 0, .int .i64 0, .int .i64 0, .int .i64 0, .int .i64 0, .int .i64 0] }, .int .i64 (M.err (M.motB m r a b u v p q))] }) := by (simp_all [M.SET, M.sel, M.err_eq])
    rw [e]
    exact tpStep_1 m r a b u v p q f0
  ·
    replace f0 : M.err (M.motB m r a b u v p q) = 0 := by simpa using f0
    have e : (.raw (.tuple #[.agg #[.int .i64 (M.sel (M.SET m r a b u v p q) (M.axT 1 m a u p)), .int .i64 (M.sel (M.SET m r a b u v p q) (M.axT 1 m b v q)), .int .i64 (M.sel (M.SET m r a b u v p q) u), .int .i64 (M.sel (M.SET m r a b u v p q) v), .int .i64 (M.sel (M.SET m r a b u v p q) (M.arT 1 m u p)), .int .i64 (M.sel (M.SET m r a b u v p q) (M.arT 1 m v q))], .int .i64 (M.SET m r a b u v p q)]) : V) = V.raw (.tuple { toList := [.agg { toList := [.int .i64 (M.sel (M.AET 1 m a b u v p q) (M.axT 1 m a u p)), .int .i64 (M.sel (M.AET 1 m a b u v p q) (M.axT 1 m b v q)), .int .i64 (M.sel (M.AET 1 m a b u v p q) u), .int .i64 (M.sel (M.AET 1 m a b u v p q) v), .int .i64 (M.sel (M.AET 1 m a b u v p q) (M.arT 1 m u p)), .int .i64 (M.sel (M.AET 1 m a b u v p q) (M.arT 1 m v q))] }, .int .i64 (M.AET 1 m a b u v p q)] }) := by (simp_all [M.SET, M.sel, M.err_eq])
    rw [e]
    exact tpStep_2 m r a b u v p q f0
theorem tmTouch {x y r u v s : Int} (h1 : chkDisc x y r = 0) (h2 : chkDisc u v s = 0) : Ret cfx 17 [.raw (.agg #[.int .i64 x, .int .i64 y, .int .i64 r]), .raw (.agg #[.int .i64 u, .int .i64 v, .int .i64 s])] (.raw (.tuple #[.int .i64 (M.cmp (M.sq x y u v) ((r + s) * (r + s))), .int .i64 0])) :=
  fn_of_calls (args := [.agg #[.int .i64 x, .int .i64 y, .int .i64 r], .agg #[.int .i64 u, .int .i64 v, .int .i64 s]]) fun w => Touch_ok x y r u v s w h1 h2
abbrev zq21 (n : Nat) (k : Nat) (rb : Int) (N : Nat) (m : Nat) (i : Int) : List V := (catV [.slo 1 n, .slo 2 k, V.raw (Value.int IntKind.u16 rb), uV, uV, uV, V.raw (.bool false), .ptr 3 0, .slo 4 N, .slo 5 N, iV (N : Int), .any 11, .slo 6 N, .slo 7 m, iV 0, iV i] (anyR 16 196 []))
def ttb_T (ds ms : List Int) (n k : Nat) (rb : Int) (TC TD TM : Nat) (N : Nat) (xs ys os ps : List Int) (m : Nat) (i : Int) : List V := (zq21 n k rb N m i)
abbrev zq44 (TC : Nat) (ds : List Int) (TD : Nat) (ms : List Int) (TM : Nat) (rb : Int) (xs : List Int) (ys : List Int) (os : List Int) (ps : List Int) : Heap := [some (.cells (zq120) TC .ro), some (.cells (mixk [some .u16, some .u16] ds) TD .ro), some (.cells (mixk [some .i32, some .i32] ms) TM .ro), some (.cells [iV (rb.tmod 951), iV 0] 56 .rw), some (.cells (ints xs) 65 (.row 2)), some (.cells (ints ys) 62 (.row 6)), some (.cells (ints os) 62 (.row 6)), some (.cells (ints ps) 71 (.row 2))]
def ttb_H (ds ms : List Int) (n k : Nat) (rb : Int) (TC TD TM : Nat) (N : Nat) (xs ys os ps : List Int) (m : Nat) (i : Int) : Heap := (zq44 TC ds TD ms TM rb xs ys os ps)
abbrev zq19 (n : Nat) (k : Nat) (rb : Int) (N : Nat) (m : Nat) (i : Int) (b : Bool) (q : Int) : List V := (catV [.slo 1 n, .slo 2 k, V.raw (Value.int IntKind.u16 rb), uV, uV, uV, V.raw (.bool false), .ptr 3 0, .slo 4 N, .slo 5 N, iV (N : Int), .any 11, .slo 6 N, .slo 7 m, iV 0, iV i, V.raw (.bool b), iV q] (anyR 18 194 []))
def ttc_T (ds ms : List Int) (n k : Nat) (rb : Int) (TC TD TM : Nat) (N : Nat) (xs ys os ps : List Int) (m : Nat) (i : Int) (q : Int) (b : Bool) : List V := (zq19 n k rb N m i b q)
def ttc_H (ds ms : List Int) (n k : Nat) (rb : Int) (TC TD TM : Nat) (N : Nat) (xs ys os ps : List Int) (m : Nat) (i : Int) (q : Int) (b : Bool) : Heap := (zq44 TC ds TD ms TM rb xs ys os ps)
abbrev zq65 (N : Nat) (rb : Int) (xs : List Int) (ys : List Int) (m : Nat) (os : List Int) (ps : List Int) : Prop := Meets cfx 0 15 [.slo 0 N, .slo 1 N, .raw (.agg #[.int .i64 (rb.tmod 951), .int .i64 0])] [some (.cells (ints xs) 65 .ro), some (.cells (ints ys) 62 .ro)] (.tup [.slo 2 N, .slo 3 m, .raw (.int .i64 0)]) ([some (.cells (ints xs) 65 .ro), some (.cells (ints ys) 62 .ro), some (.cells (ints os) 62 (.row 6)), some (.cells (ints ps) 71 (.row 2))])
abbrev zq76 (ys : List Int) (i : Int) (q : Int) : List V := [V.raw (.agg { toList := [.int .i64 (at' ys (i.toNat * 6)), .int .i64 (at' ys (i.toNat * 6 + 1)), .int .i64 2946] }), V.raw (.agg { toList := [.int .i64 (at' ys (q.toNat * 6)), .int .i64 (at' ys (q.toNat * 6 + 1)), .int .i64 2946] })]
theorem ttc_1 (ds ms : List Int) (n k : Nat) (rb : Int) (TC TD TM : Nat) (hdl : n * 2 ≤ ds.length) (hml : k * 2 ≤ ms.length) (hrb : 0 ≤ rb ∧ rb ≤ 65535) (hrt : 0 ≤ rb.tmod 951 ∧ rb.tmod 951 ≤ 950) (N : Nat) (hN2 : N ≤ 6) (xs ys os ps : List Int) (m : Nat) (hm1 : m ≤ 100) (hxl : xs.length = N * 2) (hyl : ys.length = N * 6) (hol : os.length = N * 6) (hpl : ps.length = m * 2) (h1 : (zq65 N rb xs ys m os ps)) (hL : Runs cfxg 0 4 none (.loop (loopOf cfxg.P 4 0)) (tta_T ds ms n k rb TC TD TM 0 [] [] 0 0) (tta_H ds ms n k rb TC TD TM 0 [] [] 0 0) (.exit 0) (tta_T3 ds ms n k rb TC TD TM (N : Int) xs ys N N) (tta_H3 ds ms n k rb TC TD TM (N : Int) xs ys N N)) (i : Int) (hi1 : 0 ≤ i) (hi2 : i < (N : Int)) (hd1 : chkDisc (at' ys (i.toNat * 6)) (at' ys (i.toNat * 6 + 1)) 2946 = 0) (q : Int) (b : Bool) (hq1 : 0 ≤ q) (hd2 : chkDisc (at' ys (q.toNat * 6)) (at' ys (q.toNat * 6 + 1)) 2946 = 0) (f0 : q < (N : Int)) (f1 : b = true) (f2 : q = i) : Runs cfxg 0 8 none (loopOf cfxg.P 4 2) (ttc_T ds ms n k rb TC TD TM N xs ys os ps m i q b) (ttc_H ds ms n k rb TC TD TM N xs ys os ps m i q b) (Ex.normal) (ttc_T ds ms n k rb TC TD TM N xs ys os ps m i (q + 1) true) (ttc_H ds ms n k rb TC TD TM N xs ys os ps m i (q + 1) true) := by
  refine Runs.post (t1 := (catV [.slo 1 n, .slo 2 k, V.raw (Value.int IntKind.u16 rb), uV, uV, uV, V.raw (.bool false), .ptr 3 0, .slo 4 N, .slo 5 N, iV (N : Int), .any 11, .slo 6 N, .slo 7 m, iV 0, iV i, V.raw (.bool true), iV (q + 1), iV (M.cmp (M.sq (at' ys (i.toNat * 6)) (at' ys (i.toNat * 6 + 1)) (at' ys (q.toNat * 6)) (at' ys (q.toNat * 6 + 1))) 34715664), iV 0] (anyR 20 94 (catV [iV q, .slo 5 N, iV (N : Int), V.raw (.bool (decide (q < (N : Int)))), iV q, iV (q + 1), V.raw (.tuple { toList := [.int .i64 (M.cmp (M.sq (at' ys (i.toNat * 6)) (at' ys (i.toNat * 6 + 1)) (at' ys (q.toNat * 6)) (at' ys (q.toNat * 6 + 1))) 34715664), .int .i64 0] }), .slo 5 N, iV i, V.ptr 5 (i.toNat * 6), V.ptr 5 (i.toNat * 6), (rowV ys (i.toNat * 6) 2), V.raw (.agg { toList := [.int .i64 (at' ys (i.toNat * 6)), .int .i64 (at' ys (i.toNat * 6 + 1)), .int .i64 2946] }), .slo 5 N, iV q, V.ptr 5 (q.toNat * 6), V.ptr 5 (q.toNat * 6), (rowV ys (q.toNat * 6) 2), V.raw (.agg { toList := [.int .i64 (at' ys (q.toNat * 6)), .int .i64 (at' ys (q.toNat * 6 + 1)), .int .i64 2946] }), V.raw (.tuple { toList := [.int .i64 (M.cmp (M.sq (at' ys (i.toNat * 6)) (at' ys (i.toNat * 6 + 1)) (at' ys (q.toNat * 6)) (at' ys (q.toNat * 6 + 1))) 34715664), .int .i64 0] }), iV (M.cmp (M.sq (at' ys (i.toNat * 6)) (at' ys (i.toNat * 6 + 1)) (at' ys (q.toNat * 6)) (at' ys (q.toNat * 6 + 1))) 34715664), iV 0, iV 0, V.raw (.bool false), V.raw (.bool b), V.lit true, iV q, iV i, V.raw (.bool (decide (q = i))), V.lit true, uV, uV, V.raw (.bool true), V.raw (.bool true)] (anyR 148 64 []))))) (h1 := (zq44 TC ds TD ms TM rb xs ys os ps)) (body_of cfxg_mixed cfxg_call zz (rnd := none) (fi := 0) (k := 0) (n := 40) (n0 := 8) (ans := [zT, Ans.olds [], Ans.val 5 ((rowV ys (i.toNat * 6) 2)), Ans.val 5 ((rowV ys (q.toNat * 6) 2)), Ans.ret (V.raw (.tuple { toList := [.int .i64 (M.cmp (M.sq (at' ys (i.toNat * 6)) (at' ys (i.toNat * 6 + 1)) (at' ys (q.toNat * 6)) (at' ys (q.toNat * 6 + 1))) 34715664), .int .i64 0] })), zF, zT, zT, zT, zT]) (cons := [(decide (q < (N : Int)) = true), (0 ≤ i ∧ i < (N : Int)), (loadRow cfxg 24 (ints ys) (i.toNat * 6) = some ((rowV ys (i.toNat * 6) 2))), (0 ≤ q ∧ q < (N : Int)), (loadRow cfxg 24 (ints ys) (q.toNat * 6) = some ((rowV ys (q.toNat * 6) 2))), (Ret cfxg 17 (zq76 ys i q) (V.raw (.tuple { toList := [.int .i64 (M.cmp (M.sq (at' ys (i.toNat * 6)) (at' ys (i.toNat * 6 + 1)) (at' ys (q.toNat * 6)) (at' ys (q.toNat * 6 + 1))) 34715664), .int .i64 0] }))), zN, (b = true), (decide (q = i) = true), zY, zY, (inR IntKind.i64 (q + 1))]) zk
    ⟨zdo, zo, (load_agg 2 zk zk zb zo), zo, (load_agg 2 zk zk zb zo), (up_ret (tmTouch hd1 hd2)), rfl, zdf, zdf, rfl, rfl, inR_i64 zo zo, trivial⟩ zb zb noRnd (noRanges zk)) (fun RT RH => reshape2g (lim := 0) 8 (by decide) [] zk zk (by exact (ents_say rfl rfl rfl rfl (ents_raw (mixk_all _ _) rfl rfl (ents_raw (mixk_all _ _) rfl rfl (ents_say rfl rfl rfl rfl (ents_raw (ints_all _) rfl rfl (ents_raw (ints_all _) rfl rfl (ents_raw (ints_all _) rfl rfl (ents_raw (ints_all _) rfl rfl (ents_nil)))))))))) RT RH)
theorem ttc_2 (ds ms : List Int) (n k : Nat) (rb : Int) (TC TD TM : Nat) (hdl : n * 2 ≤ ds.length) (hml : k * 2 ≤ ms.length) (hrb : 0 ≤ rb ∧ rb ≤ 65535) (hrt : 0 ≤ rb.tmod 951 ∧ rb.tmod 951 ≤ 950) (N : Nat) (hN2 : N ≤ 6) (xs ys os ps : List Int) (m : Nat) (hm1 : m ≤ 100) (hxl : xs.length = N * 2) (hyl : ys.length = N * 6) (hol : os.length = N * 6) (hpl : ps.length = m * 2) (h1 : (zq65 N rb xs ys m os ps)) (hL : Runs cfxg 0 4 none (.loop (loopOf cfxg.P 4 0)) (tta_T ds ms n k rb TC TD TM 0 [] [] 0 0) (tta_H ds ms n k rb TC TD TM 0 [] [] 0 0) (.exit 0) (tta_T3 ds ms n k rb TC TD TM (N : Int) xs ys N N) (tta_H3 ds ms n k rb TC TD TM (N : Int) xs ys N N)) (i : Int) (hi1 : 0 ≤ i) (hi2 : i < (N : Int)) (hd1 : chkDisc (at' ys (i.toNat * 6)) (at' ys (i.toNat * 6 + 1)) 2946 = 0) (q : Int) (b : Bool) (hq1 : 0 ≤ q) (hd2 : chkDisc (at' ys (q.toNat * 6)) (at' ys (q.toNat * 6 + 1)) 2946 = 0) (f0 : q < (N : Int)) (f1 : b = true) (f2 : ¬q = i) : Runs cfxg 0 8 none (loopOf cfxg.P 4 2) (ttc_T ds ms n k rb TC TD TM N xs ys os ps m i q b) (ttc_H ds ms n k rb TC TD TM N xs ys os ps m i q b) (Ex.normal) (ttc_T ds ms n k rb TC TD TM N xs ys os ps m i (q + 1) (decide (0 < M.cmp (M.sq (at' ys (i.toNat * 6)) (at' ys (i.toNat * 6 + 1)) (at' ys (q.toNat * 6)) (at' ys (q.toNat * 6 + 1))) 34715664))) (ttc_H ds ms n k rb TC TD TM N xs ys os ps m i (q + 1) (decide (0 < M.cmp (M.sq (at' ys (i.toNat * 6)) (at' ys (i.toNat * 6 + 1)) (at' ys (q.toNat * 6)) (at' ys (q.toNat * 6 + 1))) 34715664))) := by
  refine Runs.post (t1 := (catV [.slo 1 n, .slo 2 k, V.raw (Value.int IntKind.u16 rb), uV, uV, uV, V.raw (.bool false), .ptr 3 0, .slo 4 N, .slo 5 N, iV (N : Int), .any 11, .slo 6 N, .slo 7 m, iV 0, iV i, V.raw (.bool (decide (0 < M.cmp (M.sq (at' ys (i.toNat * 6)) (at' ys (i.toNat * 6 + 1)) (at' ys (q.toNat * 6)) (at' ys (q.toNat * 6 + 1))) 34715664))), iV (q + 1), iV (M.cmp (M.sq (at' ys (i.toNat * 6)) (at' ys (i.toNat * 6 + 1)) (at' ys (q.toNat * 6)) (at' ys (q.toNat * 6 + 1))) 34715664), iV 0] (anyR 20 94 (catV [iV q, .slo 5 N, iV (N : Int), V.raw (.bool (decide (q < (N : Int)))), iV q, iV (q + 1), V.raw (.tuple { toList := [.int .i64 (M.cmp (M.sq (at' ys (i.toNat * 6)) (at' ys (i.toNat * 6 + 1)) (at' ys (q.toNat * 6)) (at' ys (q.toNat * 6 + 1))) 34715664), .int .i64 0] }), .slo 5 N, iV i, V.ptr 5 (i.toNat * 6), V.ptr 5 (i.toNat * 6), (rowV ys (i.toNat * 6) 2), V.raw (.agg { toList := [.int .i64 (at' ys (i.toNat * 6)), .int .i64 (at' ys (i.toNat * 6 + 1)), .int .i64 2946] }), .slo 5 N, iV q, V.ptr 5 (q.toNat * 6), V.ptr 5 (q.toNat * 6), (rowV ys (q.toNat * 6) 2), V.raw (.agg { toList := [.int .i64 (at' ys (q.toNat * 6)), .int .i64 (at' ys (q.toNat * 6 + 1)), .int .i64 2946] }), V.raw (.tuple { toList := [.int .i64 (M.cmp (M.sq (at' ys (i.toNat * 6)) (at' ys (i.toNat * 6 + 1)) (at' ys (q.toNat * 6)) (at' ys (q.toNat * 6 + 1))) 34715664), .int .i64 0] }), iV (M.cmp (M.sq (at' ys (i.toNat * 6)) (at' ys (i.toNat * 6 + 1)) (at' ys (q.toNat * 6)) (at' ys (q.toNat * 6 + 1))) 34715664), iV 0, iV 0, V.raw (.bool false), V.raw (.bool b), V.lit true, iV q, iV i, V.raw (.bool (decide (q = i))), V.lit false, iV (M.cmp (M.sq (at' ys (i.toNat * 6)) (at' ys (i.toNat * 6 + 1)) (at' ys (q.toNat * 6)) (at' ys (q.toNat * 6 + 1))) 34715664), V.raw (.bool (decide (0 < M.cmp (M.sq (at' ys (i.toNat * 6)) (at' ys (i.toNat * 6 + 1)) (at' ys (q.toNat * 6)) (at' ys (q.toNat * 6 + 1))) 34715664))), V.raw (.bool (decide (0 < M.cmp (M.sq (at' ys (i.toNat * 6)) (at' ys (i.toNat * 6 + 1)) (at' ys (q.toNat * 6)) (at' ys (q.toNat * 6 + 1))) 34715664))), V.raw (.bool (decide (0 < M.cmp (M.sq (at' ys (i.toNat * 6)) (at' ys (i.toNat * 6 + 1)) (at' ys (q.toNat * 6)) (at' ys (q.toNat * 6 + 1))) 34715664)))] (anyR 148 64 []))))) (h1 := (zq44 TC ds TD ms TM rb xs ys os ps)) (body_of cfxg_mixed cfxg_call zz (rnd := none) (fi := 0) (k := 0) (n := 40) (n0 := 8) (ans := [zT, Ans.olds [], Ans.val 5 ((rowV ys (i.toNat * 6) 2)), Ans.val 5 ((rowV ys (q.toNat * 6) 2)), Ans.ret (V.raw (.tuple { toList := [.int .i64 (M.cmp (M.sq (at' ys (i.toNat * 6)) (at' ys (i.toNat * 6 + 1)) (at' ys (q.toNat * 6)) (at' ys (q.toNat * 6 + 1))) 34715664), .int .i64 0] })), zF, zT, zF, zF, zT]) (cons := [(decide (q < (N : Int)) = true), (0 ≤ i ∧ i < (N : Int)), (loadRow cfxg 24 (ints ys) (i.toNat * 6) = some ((rowV ys (i.toNat * 6) 2))), (0 ≤ q ∧ q < (N : Int)), (loadRow cfxg 24 (ints ys) (q.toNat * 6) = some ((rowV ys (q.toNat * 6) 2))), (Ret cfxg 17 (zq76 ys i q) (V.raw (.tuple { toList := [.int .i64 (M.cmp (M.sq (at' ys (i.toNat * 6)) (at' ys (i.toNat * 6 + 1)) (at' ys (q.toNat * 6)) (at' ys (q.toNat * 6 + 1))) 34715664), .int .i64 0] }))), zN, (b = true), (decide (q = i) = false), zN, zY, (inR IntKind.i64 (q + 1))]) zk
    ⟨zdo, zo, (load_agg 2 zk zk zb zo), zo, (load_agg 2 zk zk zb zo), (up_ret (tmTouch hd1 hd2)), rfl, zdf, zdf, rfl, rfl, inR_i64 zo zo, trivial⟩ zb zb noRnd (noRanges zk)) (fun RT RH => reshape2g (lim := 0) 8 (by decide) [] zk zk (by exact (ents_say rfl rfl rfl rfl (ents_raw (mixk_all _ _) rfl rfl (ents_raw (mixk_all _ _) rfl rfl (ents_say rfl rfl rfl rfl (ents_raw (ints_all _) rfl rfl (ents_raw (ints_all _) rfl rfl (ents_raw (ints_all _) rfl rfl (ents_raw (ints_all _) rfl rfl (ents_nil)))))))))) RT RH)
theorem ttc_3 (ds ms : List Int) (n k : Nat) (rb : Int) (TC TD TM : Nat) (hdl : n * 2 ≤ ds.length) (hml : k * 2 ≤ ms.length) (hrb : 0 ≤ rb ∧ rb ≤ 65535) (hrt : 0 ≤ rb.tmod 951 ∧ rb.tmod 951 ≤ 950) (N : Nat) (hN2 : N ≤ 6) (xs ys os ps : List Int) (m : Nat) (hm1 : m ≤ 100) (hxl : xs.length = N * 2) (hyl : ys.length = N * 6) (hol : os.length = N * 6) (hpl : ps.length = m * 2) (h1 : (zq65 N rb xs ys m os ps)) (hL : Runs cfxg 0 4 none (.loop (loopOf cfxg.P 4 0)) (tta_T ds ms n k rb TC TD TM 0 [] [] 0 0) (tta_H ds ms n k rb TC TD TM 0 [] [] 0 0) (.exit 0) (tta_T3 ds ms n k rb TC TD TM (N : Int) xs ys N N) (tta_H3 ds ms n k rb TC TD TM (N : Int) xs ys N N)) (i : Int) (hi1 : 0 ≤ i) (hi2 : i < (N : Int)) (hd1 : chkDisc (at' ys (i.toNat * 6)) (at' ys (i.toNat * 6 + 1)) 2946 = 0) (q : Int) (b : Bool) (hq1 : 0 ≤ q) (hd2 : chkDisc (at' ys (q.toNat * 6)) (at' ys (q.toNat * 6 + 1)) 2946 = 0) (f0 : q < (N : Int)) (f1 : b = false) : Runs cfxg 0 8 none (loopOf cfxg.P 4 2) (ttc_T ds ms n k rb TC TD TM N xs ys os ps m i q b) (ttc_H ds ms n k rb TC TD TM N xs ys os ps m i q b) (Ex.normal) (ttc_T ds ms n k rb TC TD TM N xs ys os ps m i (q + 1) false) (ttc_H ds ms n k rb TC TD TM N xs ys os ps m i (q + 1) false) := by
  refine Runs.post (t1 := (catV [.slo 1 n, .slo 2 k, V.raw (Value.int IntKind.u16 rb), uV, uV, uV, V.raw (.bool false), .ptr 3 0, .slo 4 N, .slo 5 N, iV (N : Int), .any 11, .slo 6 N, .slo 7 m, iV 0, iV i, V.raw (.bool false), iV (q + 1), iV (M.cmp (M.sq (at' ys (i.toNat * 6)) (at' ys (i.toNat * 6 + 1)) (at' ys (q.toNat * 6)) (at' ys (q.toNat * 6 + 1))) 34715664), iV 0] (anyR 20 94 (catV (catV [iV q, .slo 5 N, iV (N : Int), V.raw (.bool (decide (q < (N : Int)))), iV q, iV (q + 1), V.raw (.tuple { toList := [.int .i64 (M.cmp (M.sq (at' ys (i.toNat * 6)) (at' ys (i.toNat * 6 + 1)) (at' ys (q.toNat * 6)) (at' ys (q.toNat * 6 + 1))) 34715664), .int .i64 0] }), .slo 5 N, iV i, V.ptr 5 (i.toNat * 6), V.ptr 5 (i.toNat * 6), (rowV ys (i.toNat * 6) 2), V.raw (.agg { toList := [.int .i64 (at' ys (i.toNat * 6)), .int .i64 (at' ys (i.toNat * 6 + 1)), .int .i64 2946] }), .slo 5 N, iV q, V.ptr 5 (q.toNat * 6), V.ptr 5 (q.toNat * 6), (rowV ys (q.toNat * 6) 2), V.raw (.agg { toList := [.int .i64 (at' ys (q.toNat * 6)), .int .i64 (at' ys (q.toNat * 6 + 1)), .int .i64 2946] }), V.raw (.tuple { toList := [.int .i64 (M.cmp (M.sq (at' ys (i.toNat * 6)) (at' ys (i.toNat * 6 + 1)) (at' ys (q.toNat * 6)) (at' ys (q.toNat * 6 + 1))) 34715664), .int .i64 0] }), iV (M.cmp (M.sq (at' ys (i.toNat * 6)) (at' ys (i.toNat * 6 + 1)) (at' ys (q.toNat * 6)) (at' ys (q.toNat * 6 + 1))) 34715664), iV 0, iV 0, V.raw (.bool false), V.raw (.bool b), V.lit false] (repU 7 [V.raw (.bool false)])) (anyR 148 64 []))))) (h1 := (zq44 TC ds TD ms TM rb xs ys os ps)) (body_of cfxg_mixed cfxg_call zz (rnd := none) (fi := 0) (k := 0) (n := 40) (n0 := 8) (ans := [zT, Ans.olds [], Ans.val 5 ((rowV ys (i.toNat * 6) 2)), Ans.val 5 ((rowV ys (q.toNat * 6) 2)), Ans.ret (V.raw (.tuple { toList := [.int .i64 (M.cmp (M.sq (at' ys (i.toNat * 6)) (at' ys (i.toNat * 6 + 1)) (at' ys (q.toNat * 6)) (at' ys (q.toNat * 6 + 1))) 34715664), .int .i64 0] })), zF, zF, zF]) (cons := [(decide (q < (N : Int)) = true), (0 ≤ i ∧ i < (N : Int)), (loadRow cfxg 24 (ints ys) (i.toNat * 6) = some ((rowV ys (i.toNat * 6) 2))), (0 ≤ q ∧ q < (N : Int)), (loadRow cfxg 24 (ints ys) (q.toNat * 6) = some ((rowV ys (q.toNat * 6) 2))), (Ret cfxg 17 (zq76 ys i q) (V.raw (.tuple { toList := [.int .i64 (M.cmp (M.sq (at' ys (i.toNat * 6)) (at' ys (i.toNat * 6 + 1)) (at' ys (q.toNat * 6)) (at' ys (q.toNat * 6 + 1))) 34715664), .int .i64 0] }))), zN, (b = false), zN, (inR IntKind.i64 (q + 1))]) zk
    ⟨zdo, zo, (load_agg 2 zk zk zb zo), zo, (load_agg 2 zk zk zb zo), (up_ret (tmTouch hd1 hd2)), rfl, zdf, rfl, inR_i64 zo zo, trivial⟩ zb zb noRnd (noRanges zk)) (fun RT RH => reshape2g (lim := 0) 8 (by decide) [] zk zk (by exact (ents_say rfl rfl rfl rfl (ents_raw (mixk_all _ _) rfl rfl (ents_raw (mixk_all _ _) rfl rfl (ents_say rfl rfl rfl rfl (ents_raw (ints_all _) rfl rfl (ents_raw (ints_all _) rfl rfl (ents_raw (ints_all _) rfl rfl (ents_raw (ints_all _) rfl rfl (ents_nil)))))))))) RT RH)
def ttc_T4 (ds ms : List Int) (n k : Nat) (rb : Int) (TC TD TM : Nat) (N : Nat) (xs ys os ps : List Int) (m : Nat) (i : Int) (q : Int) (b : Bool) : List V := (zq19 n k rb N m i b q)
def ttc_H4 (ds ms : List Int) (n k : Nat) (rb : Int) (TC TD TM : Nat) (N : Nat) (xs ys os ps : List Int) (m : Nat) (i : Int) (q : Int) (b : Bool) : Heap := (zq44 TC ds TD ms TM rb xs ys os ps)
theorem ttc_4 (ds ms : List Int) (n k : Nat) (rb : Int) (TC TD TM : Nat) (hdl : n * 2 ≤ ds.length) (hml : k * 2 ≤ ms.length) (hrb : 0 ≤ rb ∧ rb ≤ 65535) (hrt : 0 ≤ rb.tmod 951 ∧ rb.tmod 951 ≤ 950) (N : Nat) (hN2 : N ≤ 6) (xs ys os ps : List Int) (m : Nat) (hm1 : m ≤ 100) (hxl : xs.length = N * 2) (hyl : ys.length = N * 6) (hol : os.length = N * 6) (hpl : ps.length = m * 2) (h1 : (zq65 N rb xs ys m os ps)) (hL : Runs cfxg 0 4 none (.loop (loopOf cfxg.P 4 0)) (tta_T ds ms n k rb TC TD TM 0 [] [] 0 0) (tta_H ds ms n k rb TC TD TM 0 [] [] 0 0) (.exit 0) (tta_T3 ds ms n k rb TC TD TM (N : Int) xs ys N N) (tta_H3 ds ms n k rb TC TD TM (N : Int) xs ys N N)) (i : Int) (hi1 : 0 ≤ i) (hi2 : i < (N : Int)) (hd1 : chkDisc (at' ys (i.toNat * 6)) (at' ys (i.toNat * 6 + 1)) 2946 = 0) (q : Int) (b : Bool) (hq1 : 0 ≤ q) (hd2 : chkDisc (at' ys (q.toNat * 6)) (at' ys (q.toNat * 6 + 1)) 2946 = 0) (f0 : ¬q < (N : Int)) : Runs cfxg 0 8 none (loopOf cfxg.P 4 2) (ttc_T ds ms n k rb TC TD TM N xs ys os ps m i q b) (ttc_H ds ms n k rb TC TD TM N xs ys os ps m i q b) (Ex.exit 4) (ttc_T4 ds ms n k rb TC TD TM N xs ys os ps m i q b) (ttc_H4 ds ms n k rb TC TD TM N xs ys os ps m i q b) := by
  refine Runs.post (t1 := (catV [.slo 1 n, .slo 2 k, V.raw (Value.int IntKind.u16 rb), uV, uV, uV, V.raw (.bool false), .ptr 3 0, .slo 4 N, .slo 5 N, iV (N : Int), .any 11, .slo 6 N, .slo 7 m, iV 0, iV i, V.raw (.bool b), iV q] (anyR 18 96 (catV [iV q, .slo 5 N, iV (N : Int), V.raw (.bool (decide (q < (N : Int))))] (anyR 118 94 []))))) (h1 := (zq44 TC ds TD ms TM rb xs ys os ps)) (body_of cfxg_mixed cfxg_call zz (rnd := none) (fi := 0) (k := 0) (n := 40) (n0 := 8) (ans := [zF]) (cons := [(decide (q < (N : Int)) = false)]) zk
    ⟨zdo, trivial⟩ zb zb noRnd (noRanges zk)) (fun RT RH => reshape2g (lim := 0) 8 (by decide) [] zk zk (by exact (ents_say rfl rfl rfl rfl (ents_raw (mixk_all _ _) rfl rfl (ents_raw (mixk_all _ _) rfl rfl (ents_say rfl rfl rfl rfl (ents_raw (ints_all _) rfl rfl (ents_raw (ints_all _) rfl rfl (ents_raw (ints_all _) rfl rfl (ents_raw (ints_all _) rfl rfl (ents_nil)))))))))) RT RH)
theorem M.cmp_pos {a b : Int} : decide (0 < M.cmp a b) = decide (b < a) := by
  unfold M.cmp
  split
  · simp; omega
  · split
    · rename_i h
      simp [h]
    · rename_i h
      simp [h]
theorem ttc_loop (ds ms : List Int) (n k : Nat) (rb : Int) (TC TD TM : Nat) (hdl : n * 2 ≤ ds.length) (hml : k * 2 ≤ ms.length) (hrb : 0 ≤ rb ∧ rb ≤ 65535) (hrt : 0 ≤ rb.tmod 951 ∧ rb.tmod 951 ≤ 950) (N : Nat) (hN2 : N ≤ 6) (xs ys os ps : List Int) (m : Nat) (hm1 : m ≤ 100) (hxl : xs.length = N * 2) (hyl : ys.length = N * 6) (hol : os.length = N * 6) (hpl : ps.length = m * 2) (h1 : (zq65 N rb xs ys m os ps)) (hL : Runs cfxg 0 4 none (.loop (loopOf cfxg.P 4 0)) (tta_T ds ms n k rb TC TD TM 0 [] [] 0 0) (tta_H ds ms n k rb TC TD TM 0 [] [] 0 0) (.exit 0) (tta_T3 ds ms n k rb TC TD TM (N : Int) xs ys N N) (tta_H3 ds ms n k rb TC TD TM (N : Int) xs ys N N)) (hD : ∀ j : Nat, chkDisc (at' ys (j * 6)) (at' ys (j * 6 + 1)) 2946 = 0) (i : Nat) (hi : i < N) : Runs cfxg 0 8 none (.loop (loopOf cfxg.P 4 2)) (ttc_T ds ms n k rb TC TD TM N xs ys os ps m i 0 true) (ttc_H ds ms n k rb TC TD TM N xs ys os ps m i 0 true) (.exit 4) (ttc_T4 ds ms n k rb TC TD TM N xs ys os ps m i (N : Int) (M.apt ys i N)) (ttc_H4 ds ms n k rb TC TD TM N xs ys os ps m i (N : Int) (M.apt ys i N)) :=
  upto (c := cfxg) (lim := 0) (n0 := 8) (x := loopOf cfxg.P 4 2) noRnd (fun q : Nat => ttc_T ds ms n k rb TC TD TM N xs ys os ps m i q (M.apt ys i q)) (fun q : Nat => ttc_H ds ms n k rb TC TD TM N xs ys os ps m i q (M.apt ys i q)) N (e := .exit 4) (by simp)
    (fun q hq => by
      cases hb : M.apt ys i q with
      | true =>
        by_cases e : q = i
        · have e2 : M.apt ys i (q + 1) = true := by show (M.apt ys i q && _) = true; rw [hb]; simp [e]
          rw [e2]
          exact ttc_1 ds ms n k rb TC TD TM hdl hml hrb hrt N hN2 xs ys os ps m hm1 hxl hyl hol hpl h1 hL i zo zo (hD i) q true zo (hD q) zo rfl zo
        · have h := ttc_2 ds ms n k rb TC TD TM hdl hml hrb hrt N hN2 xs ys os ps m hm1 hxl hyl hol hpl h1 hL i zo zo (hD i) q true zo (hD q) zo rfl zo
          simp only [Int.toNat_natCast, M.cmp_pos] at h
          have e2 : M.apt ys i (q + 1) = decide (34715664 < M.sq (at' ys (i * 6)) (at' ys (i * 6 + 1)) (at' ys (q * 6)) (at' ys (q * 6 + 1))) := by simp [M.apt, hb, e]
          rw [e2]
          exact h
      | false =>
        have e2 : M.apt ys i (q + 1) = false := by simp [M.apt, hb]
        rw [e2]
        exact ttc_3 ds ms n k rb TC TD TM hdl hml hrb hrt N hN2 xs ys os ps m hm1 hxl hyl hol hpl h1 hL i zo zo (hD i) q false zo (hD q) zo rfl)
    (ttc_4 ds ms n k rb TC TD TM hdl hml hrb hrt N hN2 xs ys os ps m hm1 hxl hyl hol hpl h1 hL i zo zo (hD i) N (M.apt ys i N) zo (hD N) zo)
abbrev zq12 (n : Nat) (k : Nat) (rb : Int) (N : Nat) (m : Nat) (i : Int) : List V := (catV [.slo 1 n, .slo 2 k, V.raw (Value.int IntKind.u16 rb), uV, uV, uV, V.raw (.bool false), .ptr 3 0, .slo 4 N, .slo 5 N, iV (N : Int), .any 11, .slo 6 N, .slo 7 m, iV 0, iV i, V.raw (.bool true), iV 0] (anyR 18 90 (catV [iV i, .slo 5 N, iV (N : Int), V.raw (.bool (decide (i < (N : Int))))] (anyR 112 100 []))))
abbrev zq14 (n : Nat) (k : Nat) (rb : Int) (N : Nat) (m : Nat) (i : Int) : List V := (catV [.slo 1 n, .slo 2 k, V.raw (Value.int IntKind.u16 rb), uV, uV, uV, V.raw (.bool false), .ptr 3 0, .slo 4 N, .slo 5 N, iV (N : Int), .any 11, .slo 6 N, .slo 7 m, iV 0, iV i, V.raw (.bool true), iV (N : Int)] (anyR 18 194 []))
theorem ttd_1 (ds ms : List Int) (n k : Nat) (rb : Int) (TC TD TM : Nat) (hdl : n * 2 ≤ ds.length) (hml : k * 2 ≤ ms.length) (hrb : 0 ≤ rb ∧ rb ≤ 65535) (hrt : 0 ≤ rb.tmod 951 ∧ rb.tmod 951 ≤ 950) (N : Nat) (hN2 : N ≤ 6) (xs ys os ps : List Int) (m : Nat) (hm1 : m ≤ 100) (hxl : xs.length = N * 2) (hyl : ys.length = N * 6) (hol : os.length = N * 6) (hpl : ps.length = m * 2) (h1 : (zq65 N rb xs ys m os ps)) (hL : Runs cfxg 0 4 none (.loop (loopOf cfxg.P 4 0)) (tta_T ds ms n k rb TC TD TM 0 [] [] 0 0) (tta_H ds ms n k rb TC TD TM 0 [] [] 0 0) (.exit 0) (tta_T3 ds ms n k rb TC TD TM (N : Int) xs ys N N) (tta_H3 ds ms n k rb TC TD TM (N : Int) xs ys N N)) (i : Int) (hi1 : 0 ≤ i) (hi2 : i < (N : Int)) (hs0 : at' os (i.toNat * 6) = at' ys (i.toNat * 6)) (hs1 : at' os (i.toNat * 6 + 1) = at' ys (i.toNat * 6 + 1)) (hs4 : at' os (i.toNat * 6 + 4) = at' ys (i.toNat * 6 + 4)) (hs5 : at' os (i.toNat * 6 + 5) = at' ys (i.toNat * 6 + 5)) (hs2 : at' os (i.toNat * 6 + 2) = at' ys (i.toNat * 6 + 2)) (hs3 : at' os (i.toNat * 6 + 3) = at' ys (i.toNat * 6 + 3)) (hR : Runs cfxg 0 8 none (.loop (loopOf cfxg.P 4 2)) (ttc_T ds ms n k rb TC TD TM N xs ys os ps m i 0 true) (ttc_H ds ms n k rb TC TD TM N xs ys os ps m i 0 true) (.exit 4) (ttc_T4 ds ms n k rb TC TD TM N xs ys os ps m i (N : Int) true) (ttc_H4 ds ms n k rb TC TD TM N xs ys os ps m i (N : Int) true))  : Runs cfxg 0 8 none (loopOf cfxg.P 4 1) (ttb_T ds ms n k rb TC TD TM N xs ys os ps m i) (ttb_H ds ms n k rb TC TD TM N xs ys os ps m i) (Ex.normal) (ttb_T ds ms n k rb TC TD TM N xs ys os ps m (i + 1)) (ttb_H ds ms n k rb TC TD TM N xs ys os ps m (i + 1)) := by
  refine Runs.post (t1 := (catV [.slo 1 n, .slo 2 k, V.raw (Value.int IntKind.u16 rb), uV, uV, uV, V.raw (.bool false), .ptr 3 0, .slo 4 N, .slo 5 N, iV (N : Int), .any 11, .slo 6 N, .slo 7 m, iV 0, iV (i + 1), V.raw (.bool true), iV (N : Int)] (anyR 18 94 (catV [iV i, iV (i + 1)] (anyR 114 34 (catV [V.raw (.bool true), V.raw (.bool true), .slo 6 N, iV i, V.ptr 6 (i.toNat * 6), (rowV os (i.toNat * 6) 6), .slo 5 N, iV i, V.ptr 5 (i.toNat * 6), (rowV ys (i.toNat * 6) 6), V.raw (.bool !(decide (at' os (i.toNat * 6) = at' ys (i.toNat * 6)) && (decide (at' os (i.toNat * 6 + 1) = at' ys (i.toNat * 6 + 1)) && true) && (decide (at' os (i.toNat * 6 + 2) = at' ys (i.toNat * 6 + 2)) && (decide (at' os (i.toNat * 6 + 3) = at' ys (i.toNat * 6 + 3)) && true) && (decide (at' os (i.toNat * 6 + 4) = at' ys (i.toNat * 6 + 4)) && (decide (at' os (i.toNat * 6 + 5) = at' ys (i.toNat * 6 + 5)) && true) && true)))), V.raw (.bool !(decide (at' os (i.toNat * 6) = at' ys (i.toNat * 6)) && (decide (at' os (i.toNat * 6 + 1) = at' ys (i.toNat * 6 + 1)) && true) && (decide (at' os (i.toNat * 6 + 2) = at' ys (i.toNat * 6 + 2)) && (decide (at' os (i.toNat * 6 + 3) = at' ys (i.toNat * 6 + 3)) && true) && (decide (at' os (i.toNat * 6 + 4) = at' ys (i.toNat * 6 + 4)) && (decide (at' os (i.toNat * 6 + 5) = at' ys (i.toNat * 6 + 5)) && true) && true))))] (anyR 160 52 []))))))) (h1 := (zq44 TC ds TD ms TM rb xs ys os ps)) (body_of cfxg_mixed cfxg_call zz (rnd := none) (fi := 0) (k := 0) (n := 40) (n0 := 8) (ans := [zT, Ans.loop (Ex.exit 4) (zq14 n k rb N m i) (zq44 TC ds TD ms TM rb xs ys os ps), Ans.olds [], zT, zT, zT, zT, Ans.val 6 ((rowV os (i.toNat * 6) 6)), zT, zT, zT, zT, Ans.val 5 ((rowV ys (i.toNat * 6) 6)), zT, zT, zF]) (cons := [(decide (i < (N : Int)) = true), (Runs cfxg 0 8 none (.loop (loopOf cfxg.P 4 2)) (zq12 n k rb N m i) (zq44 TC ds TD ms TM rb xs ys os ps) (Ex.exit 4) (zq14 n k rb N m i) (zq44 TC ds TD ms TM rb xs ys os ps)), zY, zY, zY, (0 ≤ i ∧ i < (N : Int)), zY, (loadRow cfxg 62 (ints os) (i.toNat * 6) = some ((rowV os (i.toNat * 6) 6))), zY, zY, zY, (0 ≤ i ∧ i < (N : Int)), zY, (loadRow cfxg 62 (ints ys) (i.toNat * 6) = some ((rowV ys (i.toNat * 6) 6))), zY, zY, ((!(decide (at' os (i.toNat * 6) = at' ys (i.toNat * 6)) && (decide (at' os (i.toNat * 6 + 1) = at' ys (i.toNat * 6 + 1)) && true) && (decide (at' os (i.toNat * 6 + 2) = at' ys (i.toNat * 6 + 2)) && (decide (at' os (i.toNat * 6 + 3) = at' ys (i.toNat * 6 + 3)) && true) && (decide (at' os (i.toNat * 6 + 4) = at' ys (i.toNat * 6 + 4)) && (decide (at' os (i.toNat * 6 + 5) = at' ys (i.toNat * 6 + 5)) && true) && true)))) = false), (inR IntKind.i64 (i + 1))]) zk
    ⟨zdo, (by
      refine Runs.pre (fun b e => by cases e) (fun RT RH => ?_) (hR)
      exact reshape2g (lim := 0) 8 (t := (zq12 n k rb N m i)) (h := (zq44 TC ds TD ms TM rb xs ys os ps)) (by decide) [] zk zk (by repeat first | exact ents_nil | refine ents_none ?_ | refine ents_raw (ints_all _) rfl rfl ?_ | refine ents_raw (bools_all _) rfl rfl ?_ | refine ents_raw (mix_all _ _) rfl rfl ?_ | refine ents_raw (mixk_all _ _) rfl rfl ?_ | refine ents_say rfl rfl rfl rfl ?_ | refine ents_nilC rfl rfl ?_) RT RH), rfl, rfl, rfl, zo, rfl, (load_agg 6 zk zk zb zo), rfl, rfl, rfl, zo, rfl, (load_agg 6 zk zk zb zo), rfl, rfl, zdf, inR_i64 zo zo, trivial⟩ zb zb noRnd (noRanges zk)) (fun RT RH => reshape2g (lim := 0) 8 (by decide) [] zk zk (by exact (ents_say rfl rfl rfl rfl (ents_raw (mixk_all _ _) rfl rfl (ents_raw (mixk_all _ _) rfl rfl (ents_say rfl rfl rfl rfl (ents_raw (ints_all _) rfl rfl (ents_raw (ints_all _) rfl rfl (ents_raw (ints_all _) rfl rfl (ents_raw (ints_all _) rfl rfl (ents_nil)))))))))) RT RH)
abbrev zq13 (n : Nat) (k : Nat) (rb : Int) (N : Nat) (m : Nat) (i : Int) : List V := (catV [.slo 1 n, .slo 2 k, V.raw (Value.int IntKind.u16 rb), uV, uV, uV, V.raw (.bool false), .ptr 3 0, .slo 4 N, .slo 5 N, iV (N : Int), .any 11, .slo 6 N, .slo 7 m, iV 0, iV i, V.raw (.bool false), iV (N : Int)] (anyR 18 194 []))
theorem tte_1 (ds ms : List Int) (n k : Nat) (rb : Int) (TC TD TM : Nat) (hdl : n * 2 ≤ ds.length) (hml : k * 2 ≤ ms.length) (hrb : 0 ≤ rb ∧ rb ≤ 65535) (hrt : 0 ≤ rb.tmod 951 ∧ rb.tmod 951 ≤ 950) (N : Nat) (hN2 : N ≤ 6) (xs ys os ps : List Int) (m : Nat) (hm1 : m ≤ 100) (hxl : xs.length = N * 2) (hyl : ys.length = N * 6) (hol : os.length = N * 6) (hpl : ps.length = m * 2) (h1 : (zq65 N rb xs ys m os ps)) (hL : Runs cfxg 0 4 none (.loop (loopOf cfxg.P 4 0)) (tta_T ds ms n k rb TC TD TM 0 [] [] 0 0) (tta_H ds ms n k rb TC TD TM 0 [] [] 0 0) (.exit 0) (tta_T3 ds ms n k rb TC TD TM (N : Int) xs ys N N) (tta_H3 ds ms n k rb TC TD TM (N : Int) xs ys N N)) (i : Int) (hi1 : 0 ≤ i) (hi2 : i < (N : Int)) (hR : Runs cfxg 0 8 none (.loop (loopOf cfxg.P 4 2)) (ttc_T ds ms n k rb TC TD TM N xs ys os ps m i 0 true) (ttc_H ds ms n k rb TC TD TM N xs ys os ps m i 0 true) (.exit 4) (ttc_T4 ds ms n k rb TC TD TM N xs ys os ps m i (N : Int) false) (ttc_H4 ds ms n k rb TC TD TM N xs ys os ps m i (N : Int) false))  : Runs cfxg 0 8 none (loopOf cfxg.P 4 1) (ttb_T ds ms n k rb TC TD TM N xs ys os ps m i) (ttb_H ds ms n k rb TC TD TM N xs ys os ps m i) (Ex.normal) (ttb_T ds ms n k rb TC TD TM N xs ys os ps m (i + 1)) (ttb_H ds ms n k rb TC TD TM N xs ys os ps m (i + 1)) := by
  refine Runs.post (t1 := (catV [.slo 1 n, .slo 2 k, V.raw (Value.int IntKind.u16 rb), uV, uV, uV, V.raw (.bool false), .ptr 3 0, .slo 4 N, .slo 5 N, iV (N : Int), .any 11, .slo 6 N, .slo 7 m, iV 0, iV (i + 1), V.raw (.bool false), iV (N : Int)] (anyR 18 94 (catV [iV i, iV (i + 1)] (anyR 114 34 (catV (catV [V.raw (.bool false), V.raw (.bool false)] (repU 9 [V.raw (.bool false)])) (anyR 160 52 []))))))) (h1 := (zq44 TC ds TD ms TM rb xs ys os ps)) (body_of cfxg_mixed cfxg_call zz (rnd := none) (fi := 0) (k := 0) (n := 40) (n0 := 8) (ans := [zT, Ans.loop (Ex.exit 4) (zq13 n k rb N m i) (zq44 TC ds TD ms TM rb xs ys os ps), Ans.olds [], zF, zF, zF, zF, zF, zF, zF, zF, zF, zF, zF]) (cons := [(decide (i < (N : Int)) = true), (Runs cfxg 0 8 none (.loop (loopOf cfxg.P 4 2)) (zq12 n k rb N m i) (zq44 TC ds TD ms TM rb xs ys os ps) (Ex.exit 4) (zq13 n k rb N m i) (zq44 TC ds TD ms TM rb xs ys os ps)), zN, zN, zN, zN, zN, zN, zN, zN, zN, zN, zN, (inR IntKind.i64 (i + 1))]) zk
    ⟨zdo, (by
      refine Runs.pre (fun b e => by cases e) (fun RT RH => ?_) (hR)
      exact reshape2g (lim := 0) 8 (t := (zq12 n k rb N m i)) (h := (zq44 TC ds TD ms TM rb xs ys os ps)) (by decide) [] zk zk (by repeat first | exact ents_nil | refine ents_none ?_ | refine ents_raw (ints_all _) rfl rfl ?_ | refine ents_raw (bools_all _) rfl rfl ?_ | refine ents_raw (mix_all _ _) rfl rfl ?_ | refine ents_raw (mixk_all _ _) rfl rfl ?_ | refine ents_say rfl rfl rfl rfl ?_ | refine ents_nilC rfl rfl ?_) RT RH), rfl, rfl, rfl, rfl, rfl, rfl, rfl, rfl, rfl, rfl, rfl, inR_i64 zo zo, trivial⟩ zb zb noRnd (noRanges zk)) (fun RT RH => reshape2g (lim := 0) 8 (by decide) [] zk zk (by exact (ents_say rfl rfl rfl rfl (ents_raw (mixk_all _ _) rfl rfl (ents_raw (mixk_all _ _) rfl rfl (ents_say rfl rfl rfl rfl (ents_raw (ints_all _) rfl rfl (ents_raw (ints_all _) rfl rfl (ents_raw (ints_all _) rfl rfl (ents_raw (ints_all _) rfl rfl (ents_nil)))))))))) RT RH)
def ttf_T1 (ds ms : List Int) (n k : Nat) (rb : Int) (TC TD TM : Nat) (N : Nat) (xs ys os ps : List Int) (m : Nat) (i : Int) : List V := (zq21 n k rb N m i)
def ttf_H1 (ds ms : List Int) (n k : Nat) (rb : Int) (TC TD TM : Nat) (N : Nat) (xs ys os ps : List Int) (m : Nat) (i : Int) : Heap := (zq44 TC ds TD ms TM rb xs ys os ps)
theorem ttf_1 (ds ms : List Int) (n k : Nat) (rb : Int) (TC TD TM : Nat) (hdl : n * 2 ≤ ds.length) (hml : k * 2 ≤ ms.length) (hrb : 0 ≤ rb ∧ rb ≤ 65535) (hrt : 0 ≤ rb.tmod 951 ∧ rb.tmod 951 ≤ 950) (N : Nat) (hN2 : N ≤ 6) (xs ys os ps : List Int) (m : Nat) (hm1 : m ≤ 100) (hxl : xs.length = N * 2) (hyl : ys.length = N * 6) (hol : os.length = N * 6) (hpl : ps.length = m * 2) (h1 : (zq65 N rb xs ys m os ps)) (hL : Runs cfxg 0 4 none (.loop (loopOf cfxg.P 4 0)) (tta_T ds ms n k rb TC TD TM 0 [] [] 0 0) (tta_H ds ms n k rb TC TD TM 0 [] [] 0 0) (.exit 0) (tta_T3 ds ms n k rb TC TD TM (N : Int) xs ys N N) (tta_H3 ds ms n k rb TC TD TM (N : Int) xs ys N N)) (i : Int) (hi1 : 0 ≤ i) (hi2 : ¬ i < (N : Int))  : Runs cfxg 0 8 none (loopOf cfxg.P 4 1) (ttb_T ds ms n k rb TC TD TM N xs ys os ps m i) (ttb_H ds ms n k rb TC TD TM N xs ys os ps m i) (Ex.exit 2) (ttf_T1 ds ms n k rb TC TD TM N xs ys os ps m i) (ttf_H1 ds ms n k rb TC TD TM N xs ys os ps m i) := by
  refine Runs.post (t1 := (catV [.slo 1 n, .slo 2 k, V.raw (Value.int IntKind.u16 rb), uV, uV, uV, V.raw (.bool false), .ptr 3 0, .slo 4 N, .slo 5 N, iV (N : Int), .any 11, .slo 6 N, .slo 7 m, iV 0, iV i] (anyR 16 92 (catV [iV i, .slo 5 N, iV (N : Int), V.raw (.bool (decide (i < (N : Int))))] (anyR 112 100 []))))) (h1 := (zq44 TC ds TD ms TM rb xs ys os ps)) (body_of cfxg_mixed cfxg_call zz (rnd := none) (fi := 0) (k := 0) (n := 40) (n0 := 8) (ans := [zF]) (cons := [(decide (i < (N : Int)) = false)]) zk
    ⟨zdo, trivial⟩ zb zb noRnd (noRanges zk)) (fun RT RH => reshape2g (lim := 0) 8 (by decide) [] zk zk (by exact (ents_say rfl rfl rfl rfl (ents_raw (mixk_all _ _) rfl rfl (ents_raw (mixk_all _ _) rfl rfl (ents_say rfl rfl rfl rfl (ents_raw (ints_all _) rfl rfl (ents_raw (ints_all _) rfl rfl (ents_raw (ints_all _) rfl rfl (ents_raw (ints_all _) rfl rfl (ents_nil)))))))))) RT RH)
theorem ttb_loop (ds ms : List Int) (n k : Nat) (rb : Int) (TC TD TM : Nat) (hdl : n * 2 ≤ ds.length) (hml : k * 2 ≤ ms.length) (hrb : 0 ≤ rb ∧ rb ≤ 65535) (hrt : 0 ≤ rb.tmod 951 ∧ rb.tmod 951 ≤ 950) (N : Nat) (hN2 : N ≤ 6) (xs ys os ps : List Int) (m : Nat) (hm1 : m ≤ 100) (hxl : xs.length = N * 2) (hyl : ys.length = N * 6) (hol : os.length = N * 6) (hpl : ps.length = m * 2) (h1 : (zq65 N rb xs ys m os ps)) (hL : Runs cfxg 0 4 none (.loop (loopOf cfxg.P 4 0)) (tta_T ds ms n k rb TC TD TM 0 [] [] 0 0) (tta_H ds ms n k rb TC TD TM 0 [] [] 0 0) (.exit 0) (tta_T3 ds ms n k rb TC TD TM (N : Int) xs ys N N) (tta_H3 ds ms n k rb TC TD TM (N : Int) xs ys N N)) (hD : ∀ j : Nat, chkDisc (at' ys (j * 6)) (at' ys (j * 6 + 1)) 2946 = 0) (hS : ∀ j : Nat, j < N → at' os (j * 6) = at' ys (j * 6) ∧ at' os (j * 6 + 1) = at' ys (j * 6 + 1) ∧ at' os (j * 6 + 4) = at' ys (j * 6 + 4) ∧ at' os (j * 6 + 5) = at' ys (j * 6 + 5)) (hA : ∀ j : Nat, j < N → M.apt ys j N = true → at' os (j * 6 + 2) = at' ys (j * 6 + 2) ∧ at' os (j * 6 + 3) = at' ys (j * 6 + 3)) : Runs cfxg 0 8 none (.loop (loopOf cfxg.P 4 1)) (ttb_T ds ms n k rb TC TD TM N xs ys os ps m 0) (ttb_H ds ms n k rb TC TD TM N xs ys os ps m 0) (.exit 2) (ttf_T1 ds ms n k rb TC TD TM N xs ys os ps m (N : Int)) (ttf_H1 ds ms n k rb TC TD TM N xs ys os ps m (N : Int)) :=
  upto (c := cfxg) (lim := 0) (n0 := 8) (x := loopOf cfxg.P 4 1) noRnd (fun i : Nat => ttb_T ds ms n k rb TC TD TM N xs ys os ps m i) (fun i : Nat => ttb_H ds ms n k rb TC TD TM N xs ys os ps m i) N (e := .exit 2) (by simp)
    (fun i hi => by
      have hR := ttc_loop ds ms n k rb TC TD TM hdl hml hrb hrt N hN2 xs ys os ps m hm1 hxl hyl hol hpl h1 hL hD i hi
      obtain ⟨s0, s1, s4, s5⟩ := hS i hi
      cases hb : M.apt ys i N with
      | true =>
        rw [hb] at hR
        obtain ⟨s2, s3⟩ := hA i hi hb
        exact ttd_1 ds ms n k rb TC TD TM hdl hml hrb hrt N hN2 xs ys os ps m hm1 hxl hyl hol hpl h1 hL i zo zo s0 s1 s4 s5 s2 s3 hR
      | false =>
        rw [hb] at hR
        exact tte_1 ds ms n k rb TC TD TM hdl hml hrb hrt N hN2 xs ys os ps m hm1 hxl hyl hol hpl h1 hL i zo zo hR)
    (ttf_1 ds ms n k rb TC TD TM hdl hml hrb hrt N hN2 xs ys os ps m hm1 hxl hyl hol hpl h1 hL N zo zo)
abbrev zq18 (n : Nat) (k : Nat) (rb : Int) (N : Nat) (m : Nat) (i : Int) : List V := (catV [.slo 1 n, .slo 2 k, V.raw (Value.int IntKind.u16 rb), uV, uV, uV, V.raw (.bool false), .ptr 3 0, .slo 4 N, .slo 5 N, iV (N : Int), .any 11, .slo 6 N, .slo 7 m, iV 0, iV (N : Int), .any 16, .any 17, .any 18, .any 19, iV i] (anyR 21 191 []))
def ttg_T (ds ms : List Int) (n k : Nat) (rb : Int) (TC TD TM : Nat) (N : Nat) (xs ys os ps : List Int) (m : Nat) (i : Int) : List V := (zq18 n k rb N m i)
def ttg_H (ds ms : List Int) (n k : Nat) (rb : Int) (TC TD TM : Nat) (N : Nat) (xs ys os ps : List Int) (m : Nat) (i : Int) : Heap := (zq44 TC ds TD ms TM rb xs ys os ps)
theorem tth_1 (ds ms : List Int) (n k : Nat) (rb : Int) (TC TD TM : Nat) (hdl : n * 2 ≤ ds.length) (hml : k * 2 ≤ ms.length) (hrb : 0 ≤ rb ∧ rb ≤ 65535) (hrt : 0 ≤ rb.tmod 951 ∧ rb.tmod 951 ≤ 950) (N : Nat) (hN2 : N ≤ 6) (xs ys os ps : List Int) (m : Nat) (hm1 : m ≤ 100) (hxl : xs.length = N * 2) (hyl : ys.length = N * 6) (hol : os.length = N * 6) (hpl : ps.length = m * 2) (h1 : (zq65 N rb xs ys m os ps)) (hL : Runs cfxg 0 4 none (.loop (loopOf cfxg.P 4 0)) (tta_T ds ms n k rb TC TD TM 0 [] [] 0 0) (tta_H ds ms n k rb TC TD TM 0 [] [] 0 0) (.exit 0) (tta_T3 ds ms n k rb TC TD TM (N : Int) xs ys N N) (tta_H3 ds ms n k rb TC TD TM (N : Int) xs ys N N)) (hL2 : Runs cfxg 0 8 none (.loop (loopOf cfxg.P 4 1)) (ttb_T ds ms n k rb TC TD TM N xs ys os ps m 0) (ttb_H ds ms n k rb TC TD TM N xs ys os ps m 0) (.exit 2) (ttf_T1 ds ms n k rb TC TD TM N xs ys os ps m (N : Int)) (ttf_H1 ds ms n k rb TC TD TM N xs ys os ps m (N : Int))) (i : Int) (hi1 : 0 ≤ i) (hi2 : i < (m : Int)) (hj1 : 0 ≤ at' ps (i.toNat * 2)) (hj2 : at' ps (i.toNat * 2) < at' ps (i.toNat * 2 + 1)) (hj3 : at' ps (i.toNat * 2 + 1) < (N : Int)) (hd1 : chkDisc (at' ys ((at' ps (i.toNat * 2)).toNat * 6)) (at' ys ((at' ps (i.toNat * 2)).toNat * 6 + 1)) 2946 = 0) (hd2 : chkDisc (at' ys ((at' ps (i.toNat * 2 + 1)).toNat * 6)) (at' ys ((at' ps (i.toNat * 2 + 1)).toNat * 6 + 1)) 2946 = 0) (hnr : ¬ 0 < M.cmp (M.sq (at' ys ((at' ps (i.toNat * 2)).toNat * 6)) (at' ys ((at' ps (i.toNat * 2)).toNat * 6 + 1)) (at' ys ((at' ps (i.toNat * 2 + 1)).toNat * 6)) (at' ys ((at' ps (i.toNat * 2 + 1)).toNat * 6 + 1))) 34715664)  : Runs cfxg 0 8 none (loopOf cfxg.P 4 3) (ttg_T ds ms n k rb TC TD TM N xs ys os ps m i) (ttg_H ds ms n k rb TC TD TM N xs ys os ps m i) (Ex.normal) (ttg_T ds ms n k rb TC TD TM N xs ys os ps m (i + 1)) (ttg_H ds ms n k rb TC TD TM N xs ys os ps m (i + 1)) := by
  refine Runs.post (t1 := (catV [.slo 1 n, .slo 2 k, V.raw (Value.int IntKind.u16 rb), uV, uV, uV, V.raw (.bool false), .ptr 3 0, .slo 4 N, .slo 5 N, iV (N : Int), .any 11, .slo 6 N, .slo 7 m, iV 0, iV (N : Int), .any 16, .any 17, .any 18, .any 19, iV (i + 1), iV (at' ps (i.toNat * 2)), iV (at' ps (i.toNat * 2 + 1)), iV (M.cmp (M.sq (at' ys ((at' ps (i.toNat * 2)).toNat * 6)) (at' ys ((at' ps (i.toNat * 2)).toNat * 6 + 1)) (at' ys ((at' ps (i.toNat * 2 + 1)).toNat * 6)) (at' ys ((at' ps (i.toNat * 2 + 1)).toNat * 6 + 1))) 34715664), iV 0] (anyR 25 135 [iV i, .slo 7 m, iV (m : Int), V.raw (.bool (decide (i < (m : Int)))), iV i, iV (i + 1), .slo 7 m, iV i, V.ptr 7 (i.toNat * 2), V.ptr 7 (i.toNat * 2), iV (at' ps (i.toNat * 2)), .slo 7 m, iV i, V.ptr 7 (i.toNat * 2), V.ptr 7 (i.toNat * 2 + 1), iV (at' ps (i.toNat * 2 + 1)), iV (at' ps (i.toNat * 2)), V.raw (.bool (decide (at' ps (i.toNat * 2) < 0))), V.lit false, iV (at' ps (i.toNat * 2 + 1)), iV (at' ps (i.toNat * 2)), V.raw (.bool (decide (at' ps (i.toNat * 2 + 1) ≤ at' ps (i.toNat * 2)))), V.raw (.bool (decide (at' ps (i.toNat * 2 + 1) ≤ at' ps (i.toNat * 2)))), V.lit false, iV (at' ps (i.toNat * 2 + 1)), .slo 5 N, iV (N : Int), V.raw (.bool (decide ((N : Int) ≤ at' ps (i.toNat * 2 + 1)))), V.raw (.bool (decide ((N : Int) ≤ at' ps (i.toNat * 2 + 1)))), V.raw (.tuple { toList := [.int .i64 (M.cmp (M.sq (at' ys ((at' ps (i.toNat * 2)).toNat * 6)) (at' ys ((at' ps (i.toNat * 2)).toNat * 6 + 1)) (at' ys ((at' ps (i.toNat * 2 + 1)).toNat * 6)) (at' ys ((at' ps (i.toNat * 2 + 1)).toNat * 6 + 1))) 34715664), .int .i64 0] }), .slo 5 N, iV (at' ps (i.toNat * 2)), V.ptr 5 ((at' ps (i.toNat * 2)).toNat * 6), V.ptr 5 ((at' ps (i.toNat * 2)).toNat * 6), V.raw (.agg { toList := [.int .i64 (at' ys ((at' ps (i.toNat * 2)).toNat * 6)), .int .i64 (at' ys ((at' ps (i.toNat * 2)).toNat * 6 + 1))] }), V.raw (.agg { toList := [.int .i64 (at' ys ((at' ps (i.toNat * 2)).toNat * 6)), .int .i64 (at' ys ((at' ps (i.toNat * 2)).toNat * 6 + 1)), .int .i64 2946] }), .slo 5 N, iV (at' ps (i.toNat * 2 + 1)), V.ptr 5 ((at' ps (i.toNat * 2 + 1)).toNat * 6), V.ptr 5 ((at' ps (i.toNat * 2 + 1)).toNat * 6), V.raw (.agg { toList := [.int .i64 (at' ys ((at' ps (i.toNat * 2 + 1)).toNat * 6)), .int .i64 (at' ys ((at' ps (i.toNat * 2 + 1)).toNat * 6 + 1))] }), V.raw (.agg { toList := [.int .i64 (at' ys ((at' ps (i.toNat * 2 + 1)).toNat * 6)), .int .i64 (at' ys ((at' ps (i.toNat * 2 + 1)).toNat * 6 + 1)), .int .i64 2946] }), V.raw (.tuple { toList := [.int .i64 (M.cmp (M.sq (at' ys ((at' ps (i.toNat * 2)).toNat * 6)) (at' ys ((at' ps (i.toNat * 2)).toNat * 6 + 1)) (at' ys ((at' ps (i.toNat * 2 + 1)).toNat * 6)) (at' ys ((at' ps (i.toNat * 2 + 1)).toNat * 6 + 1))) 34715664), .int .i64 0] }), iV (M.cmp (M.sq (at' ys ((at' ps (i.toNat * 2)).toNat * 6)) (at' ys ((at' ps (i.toNat * 2)).toNat * 6 + 1)) (at' ys ((at' ps (i.toNat * 2 + 1)).toNat * 6)) (at' ys ((at' ps (i.toNat * 2 + 1)).toNat * 6 + 1))) 34715664), iV 0, iV 0, V.raw (.bool false), V.lit false, iV (M.cmp (M.sq (at' ys ((at' ps (i.toNat * 2)).toNat * 6)) (at' ys ((at' ps (i.toNat * 2)).toNat * 6 + 1)) (at' ys ((at' ps (i.toNat * 2 + 1)).toNat * 6)) (at' ys ((at' ps (i.toNat * 2 + 1)).toNat * 6 + 1))) 34715664), V.raw (.bool (decide (0 < M.cmp (M.sq (at' ys ((at' ps (i.toNat * 2)).toNat * 6)) (at' ys ((at' ps (i.toNat * 2)).toNat * 6 + 1)) (at' ys ((at' ps (i.toNat * 2 + 1)).toNat * 6)) (at' ys ((at' ps (i.toNat * 2 + 1)).toNat * 6 + 1))) 34715664))), V.raw (.bool (decide (0 < M.cmp (M.sq (at' ys ((at' ps (i.toNat * 2)).toNat * 6)) (at' ys ((at' ps (i.toNat * 2)).toNat * 6 + 1)) (at' ys ((at' ps (i.toNat * 2 + 1)).toNat * 6)) (at' ys ((at' ps (i.toNat * 2 + 1)).toNat * 6 + 1))) 34715664))), .any 211]))) (h1 := (zq44 TC ds TD ms TM rb xs ys os ps)) (body_of cfxg_mixed cfxg_call zz (rnd := none) (fi := 0) (k := 0) (n := 40) (n0 := 8) (ans := [zT, Ans.olds [], Ans.val 7 (iV (at' ps (i.toNat * 2))), Ans.val 7 (iV (at' ps (i.toNat * 2 + 1))), zF, zF, zF, zF, zF, Ans.olds [], Ans.val 5 (V.raw (.agg { toList := [.int .i64 (at' ys ((at' ps (i.toNat * 2)).toNat * 6)), .int .i64 (at' ys ((at' ps (i.toNat * 2)).toNat * 6 + 1))] })), Ans.val 5 (V.raw (.agg { toList := [.int .i64 (at' ys ((at' ps (i.toNat * 2 + 1)).toNat * 6)), .int .i64 (at' ys ((at' ps (i.toNat * 2 + 1)).toNat * 6 + 1))] })), Ans.ret (V.raw (.tuple { toList := [.int .i64 (M.cmp (M.sq (at' ys ((at' ps (i.toNat * 2)).toNat * 6)) (at' ys ((at' ps (i.toNat * 2)).toNat * 6 + 1)) (at' ys ((at' ps (i.toNat * 2 + 1)).toNat * 6)) (at' ys ((at' ps (i.toNat * 2 + 1)).toNat * 6 + 1))) 34715664), .int .i64 0] })), zF, zF, zF]) (cons := [(decide (i < (m : Int)) = true), (0 ≤ i ∧ i < (m : Int)), ((0 : Int) ≤ (0 : Int) ∧ (0 : Int) < (2 : Int)), (loadRow cfxg 3 (ints ps) (i.toNat * 2) = some (iV (at' ps (i.toNat * 2)))), (0 ≤ i ∧ i < (m : Int)), ((0 : Int) ≤ (1 : Int) ∧ (1 : Int) < (2 : Int)), (loadRow cfxg 3 (ints ps) (i.toNat * 2 + 1) = some (iV (at' ps (i.toNat * 2 + 1)))), (decide (at' ps (i.toNat * 2) < 0) = false), zN, (decide (at' ps (i.toNat * 2 + 1) ≤ at' ps (i.toNat * 2)) = false), zN, (decide ((N : Int) ≤ at' ps (i.toNat * 2 + 1)) = false), (0 ≤ at' ps (i.toNat * 2) ∧ at' ps (i.toNat * 2) < (N : Int)), (loadRow cfxg 24 (ints ys) ((at' ps (i.toNat * 2)).toNat * 6) = some (V.raw (.agg { toList := [.int .i64 (at' ys ((at' ps (i.toNat * 2)).toNat * 6)), .int .i64 (at' ys ((at' ps (i.toNat * 2)).toNat * 6 + 1))] }))), (0 ≤ at' ps (i.toNat * 2 + 1) ∧ at' ps (i.toNat * 2 + 1) < (N : Int)), (loadRow cfxg 24 (ints ys) ((at' ps (i.toNat * 2 + 1)).toNat * 6) = some (V.raw (.agg { toList := [.int .i64 (at' ys ((at' ps (i.toNat * 2 + 1)).toNat * 6)), .int .i64 (at' ys ((at' ps (i.toNat * 2 + 1)).toNat * 6 + 1))] }))), (Ret cfxg 17 [V.raw (.agg { toList := [.int .i64 (at' ys ((at' ps (i.toNat * 2)).toNat * 6)), .int .i64 (at' ys ((at' ps (i.toNat * 2)).toNat * 6 + 1)), .int .i64 2946] }), V.raw (.agg { toList := [.int .i64 (at' ys ((at' ps (i.toNat * 2 + 1)).toNat * 6)), .int .i64 (at' ys ((at' ps (i.toNat * 2 + 1)).toNat * 6 + 1)), .int .i64 2946] })] (V.raw (.tuple { toList := [.int .i64 (M.cmp (M.sq (at' ys ((at' ps (i.toNat * 2)).toNat * 6)) (at' ys ((at' ps (i.toNat * 2)).toNat * 6 + 1)) (at' ys ((at' ps (i.toNat * 2 + 1)).toNat * 6)) (at' ys ((at' ps (i.toNat * 2 + 1)).toNat * 6 + 1))) 34715664), .int .i64 0] }))), zN, zN, (decide (0 < M.cmp (M.sq (at' ys ((at' ps (i.toNat * 2)).toNat * 6)) (at' ys ((at' ps (i.toNat * 2)).toNat * 6 + 1)) (at' ys ((at' ps (i.toNat * 2 + 1)).toNat * 6)) (at' ys ((at' ps (i.toNat * 2 + 1)).toNat * 6 + 1))) 34715664) = false), (inR IntKind.i64 (i + 1))]) zk
    ⟨zdo, zo, zo, (load_one zk zo), zo, zo, (load_one zk zo), zdo, rfl, zdf, rfl, zdo, zo, (load_agg 2 zk zk zb zo), zo, (load_agg 2 zk zk zb zo), (up_ret (tmTouch hd1 hd2)), rfl, rfl, zdo, inR_i64 zo zo, trivial⟩ zb zb noRnd (noRanges zk)) (fun RT RH => reshape2g (lim := 0) 8 (by decide) [] zk zk (by exact (ents_say rfl rfl rfl rfl (ents_raw (mixk_all _ _) rfl rfl (ents_raw (mixk_all _ _) rfl rfl (ents_say rfl rfl rfl rfl (ents_raw (ints_all _) rfl rfl (ents_raw (ints_all _) rfl rfl (ents_raw (ints_all _) rfl rfl (ents_raw (ints_all _) rfl rfl (ents_nil)))))))))) RT RH)
def tti_T1 (ds ms : List Int) (n k : Nat) (rb : Int) (TC TD TM : Nat) (N : Nat) (xs ys os ps : List Int) (m : Nat) (i : Int) : List V := (zq18 n k rb N m i)
def tti_H1 (ds ms : List Int) (n k : Nat) (rb : Int) (TC TD TM : Nat) (N : Nat) (xs ys os ps : List Int) (m : Nat) (i : Int) : Heap := (zq44 TC ds TD ms TM rb xs ys os ps)
theorem tti_1 (ds ms : List Int) (n k : Nat) (rb : Int) (TC TD TM : Nat) (hdl : n * 2 ≤ ds.length) (hml : k * 2 ≤ ms.length) (hrb : 0 ≤ rb ∧ rb ≤ 65535) (hrt : 0 ≤ rb.tmod 951 ∧ rb.tmod 951 ≤ 950) (N : Nat) (hN2 : N ≤ 6) (xs ys os ps : List Int) (m : Nat) (hm1 : m ≤ 100) (hxl : xs.length = N * 2) (hyl : ys.length = N * 6) (hol : os.length = N * 6) (hpl : ps.length = m * 2) (h1 : (zq65 N rb xs ys m os ps)) (hL : Runs cfxg 0 4 none (.loop (loopOf cfxg.P 4 0)) (tta_T ds ms n k rb TC TD TM 0 [] [] 0 0) (tta_H ds ms n k rb TC TD TM 0 [] [] 0 0) (.exit 0) (tta_T3 ds ms n k rb TC TD TM (N : Int) xs ys N N) (tta_H3 ds ms n k rb TC TD TM (N : Int) xs ys N N)) (hL2 : Runs cfxg 0 8 none (.loop (loopOf cfxg.P 4 1)) (ttb_T ds ms n k rb TC TD TM N xs ys os ps m 0) (ttb_H ds ms n k rb TC TD TM N xs ys os ps m 0) (.exit 2) (ttf_T1 ds ms n k rb TC TD TM N xs ys os ps m (N : Int)) (ttf_H1 ds ms n k rb TC TD TM N xs ys os ps m (N : Int))) (i : Int) (hi1 : 0 ≤ i) (hi2 : ¬ i < (m : Int))  : Runs cfxg 0 8 none (loopOf cfxg.P 4 3) (ttg_T ds ms n k rb TC TD TM N xs ys os ps m i) (ttg_H ds ms n k rb TC TD TM N xs ys os ps m i) (Ex.exit 6) (tti_T1 ds ms n k rb TC TD TM N xs ys os ps m i) (tti_H1 ds ms n k rb TC TD TM N xs ys os ps m i) := by
  refine Runs.post (t1 := (catV [.slo 1 n, .slo 2 k, V.raw (Value.int IntKind.u16 rb), uV, uV, uV, V.raw (.bool false), .ptr 3 0, .slo 4 N, .slo 5 N, iV (N : Int), .any 11, .slo 6 N, .slo 7 m, iV 0, iV (N : Int), .any 16, .any 17, .any 18, .any 19, iV i] (anyR 21 139 (catV [iV i, .slo 7 m, iV (m : Int), V.raw (.bool (decide (i < (m : Int))))] (anyR 164 48 []))))) (h1 := (zq44 TC ds TD ms TM rb xs ys os ps)) (body_of cfxg_mixed cfxg_call zz (rnd := none) (fi := 0) (k := 0) (n := 40) (n0 := 8) (ans := [zF]) (cons := [(decide (i < (m : Int)) = false)]) zk
    ⟨zdo, trivial⟩ zb zb noRnd (noRanges zk)) (fun RT RH => reshape2g (lim := 0) 8 (by decide) [] zk zk (by exact (ents_say rfl rfl rfl rfl (ents_raw (mixk_all _ _) rfl rfl (ents_raw (mixk_all _ _) rfl rfl (ents_say rfl rfl rfl rfl (ents_raw (ints_all _) rfl rfl (ents_raw (ints_all _) rfl rfl (ents_raw (ints_all _) rfl rfl (ents_raw (ints_all _) rfl rfl (ents_nil)))))))))) RT RH)
abbrev zq63 (n : Nat) (i : Int) : List V := (catV [.slo 0 n, uV, V.raw (.bool false), uV, .any 4, .slo 0 n, iV (n : Int), iV i] (anyR 8 32 []))
def hf_T (gs : List Int) (n : Nat) (T : Nat) (i : Int) : List V := (zq63 n i)
def hf_H (gs : List Int) (n : Nat) (T : Nat) (i : Int) : Heap := [bkG gs T]
def hf_T1 (gs : List Int) (n : Nat) (T : Nat) (i : Int) : List V := (zq63 n i)
def hf_H1 (gs : List Int) (n : Nat) (T : Nat) (i : Int) : Heap := [bkG gs T]
abbrev zq90 (gs : List Int) (T : Nat) (i : Int) : Heap := [bkG gs T, some (.cells [iV (at' gs (i.toNat * 5)), iV (at' gs (i.toNat * 5 + 1)), iV (at' gs (i.toNat * 5 + 2)), iV (at' gs (i.toNat * 5 + 3)), V.raw (.bool (nz gs (i.toNat * 5 + 4)))] 74 .rw)]
abbrev zq105 (gs : List Int) (i : Int) : Prop := Ret cfx 32 [iV (at' gs (i.toNat * 5)), iV 0, iV 4194304] (V.raw (.bool (M.btw (at' gs (i.toNat * 5)) 0 4194304)))
theorem hf_1 (gs : List Int) (n : Nat) (T : Nat) (hz : n * 5 ≤ gs.length) (hn : n ≤ 20) (i : Int) (hi1 : 0 ≤ i) (f0 : i < (n : Int)) (f1 : M.btw (at' gs (i.toNat * 5)) 0 4194304 = false) : Runs cfx 0 1 none (loopOf cfx.P 60 0) (hf_T gs n T i) (hf_H gs n T i) (Ex.ret) (hf_T1 gs n T i) (hf_H1 gs n T i) := by
  refine Runs.post (t1 := [.slo 0 n, uV, V.raw (.bool false), uV, .ptr 1 0, .slo 0 n, iV (n : Int), iV i, V.raw (.bool (decide (i < (n : Int)))), V.ptr 0 (i.toNat * 5), V.raw (.agg { toList := [.int .i64 (at' gs (i.toNat * 5)), .int .i64 (at' gs (i.toNat * 5 + 1)), .int .i64 (at' gs (i.toNat * 5 + 2)), .int .i64 (at' gs (i.toNat * 5 + 3)), .bool (nz gs (i.toNat * 5 + 4))] }), .ptr 1 0, iV (at' gs (i.toNat * 5)), V.raw (.bool (M.btw (at' gs (i.toNat * 5)) 0 4194304)), V.raw (.bool !M.btw (at' gs (i.toNat * 5)) 0 4194304), V.lit true, uV, uV, uV, uV, V.raw (.bool true), V.lit true, uV, uV, uV, uV, V.raw (.bool true), V.lit true, uV, uV, uV, uV, V.raw (.bool true), V.lit true, uV, uV, uV, uV, V.raw (.bool true), .any 39]) (h1 := (zq90 gs T i)) (body_of cfx_mixed cfx_call zz (rnd := none) (fi := 0) (k := 0) (n := 40) (n0 := 1) (ans := [zT, Ans.val 0 (V.raw (.agg { toList := [.int .i64 (at' gs (i.toNat * 5)), .int .i64 (at' gs (i.toNat * 5 + 1)), .int .i64 (at' gs (i.toNat * 5 + 2)), .int .i64 (at' gs (i.toNat * 5 + 3)), .bool (nz gs (i.toNat * 5 + 4))] })), Ans.ret (V.raw (.bool (M.btw (at' gs (i.toNat * 5)) 0 4194304))), zT, zT, zT, zT, zT, zT, zT, zT, zT]) (cons := [(decide (i < (n : Int)) = true), (0 ≤ i ∧ i < (n : Int)), (loadRow cfx 74 (mix [false, false, false, false, true] gs) (i.toNat * 5) = some (V.raw (.agg { toList := [.int .i64 (at' gs (i.toNat * 5)), .int .i64 (at' gs (i.toNat * 5 + 1)), .int .i64 (at' gs (i.toNat * 5 + 2)), .int .i64 (at' gs (i.toNat * 5 + 3)), .bool (nz gs (i.toNat * 5 + 4))] }))), ((zq105 gs i)), ((!M.btw (at' gs (i.toNat * 5)) 0 4194304) = true), zY, zY, zY, zY, zY, zY, zY, zY]) zk
    ⟨zdo, (by omega), (load_mix 5 0 (by kernel_rfl) (by kernel_rfl) (Nat.le_of_ble_eq_true rfl) (by show _ % 5 = 0; omega) (Nat.le_of_ble_eq_true rfl) (by omega)), (lnBetween _ _ _), zdf, rfl, rfl, rfl, rfl, rfl, rfl, rfl, rfl, trivial⟩ (Nat.le_of_ble_eq_true rfl) (Nat.le_of_ble_eq_true rfl) noRnd (noRanges (by kernel_rfl))) zt3
def hf_T2 (gs : List Int) (n : Nat) (T : Nat) (i : Int) : List V := (zq63 n i)
def hf_H2 (gs : List Int) (n : Nat) (T : Nat) (i : Int) : Heap := [bkG gs T]
abbrev zq102 (gs : List Int) (i : Int) : Prop := Ret cfx 32 [iV (at' gs (i.toNat * 5 + 1)), iV 0, iV 4194304] (V.raw (.bool (M.btw (at' gs (i.toNat * 5 + 1)) 0 4194304)))
theorem hf_2 (gs : List Int) (n : Nat) (T : Nat) (hz : n * 5 ≤ gs.length) (hn : n ≤ 20) (i : Int) (hi1 : 0 ≤ i) (f0 : i < (n : Int)) (f1 : M.btw (at' gs (i.toNat * 5)) 0 4194304 = true) (f2 : M.btw (at' gs (i.toNat * 5 + 1)) 0 4194304 = false) : Runs cfx 0 1 none (loopOf cfx.P 60 0) (hf_T gs n T i) (hf_H gs n T i) (Ex.ret) (hf_T2 gs n T i) (hf_H2 gs n T i) := by
  refine Runs.post (t1 := [.slo 0 n, uV, V.raw (.bool false), uV, .ptr 1 0, .slo 0 n, iV (n : Int), iV i, V.raw (.bool (decide (i < (n : Int)))), V.ptr 0 (i.toNat * 5), V.raw (.agg { toList := [.int .i64 (at' gs (i.toNat * 5)), .int .i64 (at' gs (i.toNat * 5 + 1)), .int .i64 (at' gs (i.toNat * 5 + 2)), .int .i64 (at' gs (i.toNat * 5 + 3)), .bool (nz gs (i.toNat * 5 + 4))] }), .ptr 1 0, iV (at' gs (i.toNat * 5)), V.raw (.bool (M.btw (at' gs (i.toNat * 5)) 0 4194304)), V.raw (.bool !M.btw (at' gs (i.toNat * 5)) 0 4194304), V.lit false, .ptr 1 1, iV (at' gs (i.toNat * 5 + 1)), V.raw (.bool (M.btw (at' gs (i.toNat * 5 + 1)) 0 4194304)), V.raw (.bool !M.btw (at' gs (i.toNat * 5 + 1)) 0 4194304), V.raw (.bool !M.btw (at' gs (i.toNat * 5 + 1)) 0 4194304), V.lit true, uV, uV, uV, uV, V.raw (.bool true), V.lit true, uV, uV, uV, uV, V.raw (.bool true), V.lit true, uV, uV, uV, uV, V.raw (.bool true), .any 39]) (h1 := (zq90 gs T i)) (body_of cfx_mixed cfx_call zz (rnd := none) (fi := 0) (k := 0) (n := 40) (n0 := 1) (ans := [zT, Ans.val 0 (V.raw (.agg { toList := [.int .i64 (at' gs (i.toNat * 5)), .int .i64 (at' gs (i.toNat * 5 + 1)), .int .i64 (at' gs (i.toNat * 5 + 2)), .int .i64 (at' gs (i.toNat * 5 + 3)), .bool (nz gs (i.toNat * 5 + 4))] })), Ans.ret (V.raw (.bool (M.btw (at' gs (i.toNat * 5)) 0 4194304))), zF, Ans.ret (V.raw (.bool (M.btw (at' gs (i.toNat * 5 + 1)) 0 4194304))), zF, zT, zT, zT, zT, zT, zT, zT]) (cons := [(decide (i < (n : Int)) = true), (0 ≤ i ∧ i < (n : Int)), (loadRow cfx 74 (mix [false, false, false, false, true] gs) (i.toNat * 5) = some (V.raw (.agg { toList := [.int .i64 (at' gs (i.toNat * 5)), .int .i64 (at' gs (i.toNat * 5 + 1)), .int .i64 (at' gs (i.toNat * 5 + 2)), .int .i64 (at' gs (i.toNat * 5 + 3)), .bool (nz gs (i.toNat * 5 + 4))] }))), ((zq105 gs i)), ((!M.btw (at' gs (i.toNat * 5)) 0 4194304) = false), ((zq102 gs i)), zN, ((!M.btw (at' gs (i.toNat * 5 + 1)) 0 4194304) = true), zY, zY, zY, zY, zY, zY]) zk
    ⟨zdo, (by omega), (load_mix 5 0 (by kernel_rfl) (by kernel_rfl) (Nat.le_of_ble_eq_true rfl) (by show _ % 5 = 0; omega) (Nat.le_of_ble_eq_true rfl) (by omega)), (lnBetween _ _ _), zdf, (lnBetween _ _ _), rfl, zdf, rfl, rfl, rfl, rfl, rfl, rfl, trivial⟩ (Nat.le_of_ble_eq_true rfl) (Nat.le_of_ble_eq_true rfl) noRnd (noRanges (by kernel_rfl))) zt3
def hf_T3 (gs : List Int) (n : Nat) (T : Nat) (i : Int) : List V := (zq63 n i)
def hf_H3 (gs : List Int) (n : Nat) (T : Nat) (i : Int) : Heap := [bkG gs T]
abbrev zq103 (gs : List Int) (i : Int) : Prop := Ret cfx 32 [iV (at' gs (i.toNat * 5 + 2)), iV 2, iV 32768] (V.raw (.bool (M.btw (at' gs (i.toNat * 5 + 2)) 2 32768)))
theorem hf_3 (gs : List Int) (n : Nat) (T : Nat) (hz : n * 5 ≤ gs.length) (hn : n ≤ 20) (i : Int) (hi1 : 0 ≤ i) (f0 : i < (n : Int)) (f1 : M.btw (at' gs (i.toNat * 5)) 0 4194304 = true) (f2 : M.btw (at' gs (i.toNat * 5 + 1)) 0 4194304 = true) (f3 : M.btw (at' gs (i.toNat * 5 + 2)) 2 32768 = false) : Runs cfx 0 1 none (loopOf cfx.P 60 0) (hf_T gs n T i) (hf_H gs n T i) (Ex.ret) (hf_T3 gs n T i) (hf_H3 gs n T i) := by
  refine Runs.post (t1 := [.slo 0 n, uV, V.raw (.bool false), uV, .ptr 1 0, .slo 0 n, iV (n : Int), iV i, V.raw (.bool (decide (i < (n : Int)))), V.ptr 0 (i.toNat * 5), V.raw (.agg { toList := [.int .i64 (at' gs (i.toNat * 5)), .int .i64 (at' gs (i.toNat * 5 + 1)), .int .i64 (at' gs (i.toNat * 5 + 2)), .int .i64 (at' gs (i.toNat * 5 + 3)), .bool (nz gs (i.toNat * 5 + 4))] }), .ptr 1 0, iV (at' gs (i.toNat * 5)), V.raw (.bool (M.btw (at' gs (i.toNat * 5)) 0 4194304)), V.raw (.bool !M.btw (at' gs (i.toNat * 5)) 0 4194304), V.lit false, .ptr 1 1, iV (at' gs (i.toNat * 5 + 1)), V.raw (.bool (M.btw (at' gs (i.toNat * 5 + 1)) 0 4194304)), V.raw (.bool !M.btw (at' gs (i.toNat * 5 + 1)) 0 4194304), V.raw (.bool !M.btw (at' gs (i.toNat * 5 + 1)) 0 4194304), V.lit false, .ptr 1 2, iV (at' gs (i.toNat * 5 + 2)), V.raw (.bool (M.btw (at' gs (i.toNat * 5 + 2)) 2 32768)), V.raw (.bool !M.btw (at' gs (i.toNat * 5 + 2)) 2 32768), V.raw (.bool !M.btw (at' gs (i.toNat * 5 + 2)) 2 32768), V.lit true, uV, uV, uV, uV, V.raw (.bool true), V.lit true, uV, uV, uV, uV, V.raw (.bool true), .any 39]) (h1 := (zq90 gs T i)) (body_of cfx_mixed cfx_call zz (rnd := none) (fi := 0) (k := 0) (n := 40) (n0 := 1) (ans := [zT, Ans.val 0 (V.raw (.agg { toList := [.int .i64 (at' gs (i.toNat * 5)), .int .i64 (at' gs (i.toNat * 5 + 1)), .int .i64 (at' gs (i.toNat * 5 + 2)), .int .i64 (at' gs (i.toNat * 5 + 3)), .bool (nz gs (i.toNat * 5 + 4))] })), Ans.ret (V.raw (.bool (M.btw (at' gs (i.toNat * 5)) 0 4194304))), zF, Ans.ret (V.raw (.bool (M.btw (at' gs (i.toNat * 5 + 1)) 0 4194304))), zF, zF, Ans.ret (V.raw (.bool (M.btw (at' gs (i.toNat * 5 + 2)) 2 32768))), zF, zT, zT, zT, zT, zT]) (cons := [(decide (i < (n : Int)) = true), (0 ≤ i ∧ i < (n : Int)), (loadRow cfx 74 (mix [false, false, false, false, true] gs) (i.toNat * 5) = some (V.raw (.agg { toList := [.int .i64 (at' gs (i.toNat * 5)), .int .i64 (at' gs (i.toNat * 5 + 1)), .int .i64 (at' gs (i.toNat * 5 + 2)), .int .i64 (at' gs (i.toNat * 5 + 3)), .bool (nz gs (i.toNat * 5 + 4))] }))), ((zq105 gs i)), ((!M.btw (at' gs (i.toNat * 5)) 0 4194304) = false), ((zq102 gs i)), zN, ((!M.btw (at' gs (i.toNat * 5 + 1)) 0 4194304) = false), ((zq103 gs i)), zN, ((!M.btw (at' gs (i.toNat * 5 + 2)) 2 32768) = true), zY, zY, zY, zY]) zk
    ⟨zdo, (by omega), (load_mix 5 0 (by kernel_rfl) (by kernel_rfl) (Nat.le_of_ble_eq_true rfl) (by show _ % 5 = 0; omega) (Nat.le_of_ble_eq_true rfl) (by omega)), (lnBetween _ _ _), zdf, (lnBetween _ _ _), rfl, zdf, (lnBetween _ _ _), rfl, zdf, rfl, rfl, rfl, rfl, trivial⟩ (Nat.le_of_ble_eq_true rfl) (Nat.le_of_ble_eq_true rfl) noRnd (noRanges (by kernel_rfl))) zt3
def hf_T4 (gs : List Int) (n : Nat) (T : Nat) (i : Int) : List V := (zq63 n i)
def hf_H4 (gs : List Int) (n : Nat) (T : Nat) (i : Int) : Heap := [bkG gs T]
theorem hf_4 (gs : List Int) (n : Nat) (T : Nat) (hz : n * 5 ≤ gs.length) (hn : n ≤ 20) (i : Int) (hi1 : 0 ≤ i) (f0 : i < (n : Int)) (f1 : M.btw (at' gs (i.toNat * 5)) 0 4194304 = true) (f2 : M.btw (at' gs (i.toNat * 5 + 1)) 0 4194304 = true) (f3 : M.btw (at' gs (i.toNat * 5 + 2)) 2 32768 = true) (f4 : ¬(at' gs (i.toNat * 5 + 2)).tmod (2 : Int) = (0 : Int)) : Runs cfx 0 1 none (loopOf cfx.P 60 0) (hf_T gs n T i) (hf_H gs n T i) (Ex.ret) (hf_T4 gs n T i) (hf_H4 gs n T i) := by
  refine Runs.post (t1 := [.slo 0 n, uV, V.raw (.bool false), uV, .ptr 1 0, .slo 0 n, iV (n : Int), iV i, V.raw (.bool (decide (i < (n : Int)))), V.ptr 0 (i.toNat * 5), V.raw (.agg { toList := [.int .i64 (at' gs (i.toNat * 5)), .int .i64 (at' gs (i.toNat * 5 + 1)), .int .i64 (at' gs (i.toNat * 5 + 2)), .int .i64 (at' gs (i.toNat * 5 + 3)), .bool (nz gs (i.toNat * 5 + 4))] }), .ptr 1 0, iV (at' gs (i.toNat * 5)), V.raw (.bool (M.btw (at' gs (i.toNat * 5)) 0 4194304)), V.raw (.bool !M.btw (at' gs (i.toNat * 5)) 0 4194304), V.lit false, .ptr 1 1, iV (at' gs (i.toNat * 5 + 1)), V.raw (.bool (M.btw (at' gs (i.toNat * 5 + 1)) 0 4194304)), V.raw (.bool !M.btw (at' gs (i.toNat * 5 + 1)) 0 4194304), V.raw (.bool !M.btw (at' gs (i.toNat * 5 + 1)) 0 4194304), V.lit false, .ptr 1 2, iV (at' gs (i.toNat * 5 + 2)), V.raw (.bool (M.btw (at' gs (i.toNat * 5 + 2)) 2 32768)), V.raw (.bool !M.btw (at' gs (i.toNat * 5 + 2)) 2 32768), V.raw (.bool !M.btw (at' gs (i.toNat * 5 + 2)) 2 32768), V.lit false, .ptr 1 2, iV (at' gs (i.toNat * 5 + 2)), iV ((at' gs (i.toNat * 5 + 2)).tmod 2), V.raw (.bool !decide ((at' gs (i.toNat * 5 + 2)).tmod (2 : Int) = (0 : Int))), V.raw (.bool !decide ((at' gs (i.toNat * 5 + 2)).tmod (2 : Int) = (0 : Int))), V.lit true, uV, uV, uV, uV, V.raw (.bool true), .any 39]) (h1 := (zq90 gs T i)) (body_of cfx_mixed cfx_call zz (rnd := none) (fi := 0) (k := 0) (n := 40) (n0 := 1) (ans := [zT, Ans.val 0 (V.raw (.agg { toList := [.int .i64 (at' gs (i.toNat * 5)), .int .i64 (at' gs (i.toNat * 5 + 1)), .int .i64 (at' gs (i.toNat * 5 + 2)), .int .i64 (at' gs (i.toNat * 5 + 3)), .bool (nz gs (i.toNat * 5 + 4))] })), Ans.ret (V.raw (.bool (M.btw (at' gs (i.toNat * 5)) 0 4194304))), zF, Ans.ret (V.raw (.bool (M.btw (at' gs (i.toNat * 5 + 1)) 0 4194304))), zF, zF, Ans.ret (V.raw (.bool (M.btw (at' gs (i.toNat * 5 + 2)) 2 32768))), zF, zF, zF, zT, zT, zT]) (cons := [(decide (i < (n : Int)) = true), (0 ≤ i ∧ i < (n : Int)), (loadRow cfx 74 (mix [false, false, false, false, true] gs) (i.toNat * 5) = some (V.raw (.agg { toList := [.int .i64 (at' gs (i.toNat * 5)), .int .i64 (at' gs (i.toNat * 5 + 1)), .int .i64 (at' gs (i.toNat * 5 + 2)), .int .i64 (at' gs (i.toNat * 5 + 3)), .bool (nz gs (i.toNat * 5 + 4))] }))), ((zq105 gs i)), ((!M.btw (at' gs (i.toNat * 5)) 0 4194304) = false), ((zq102 gs i)), zN, ((!M.btw (at' gs (i.toNat * 5 + 1)) 0 4194304) = false), ((zq103 gs i)), zN, ((!M.btw (at' gs (i.toNat * 5 + 2)) 2 32768) = false), ((2 : Int) ≠ (0 : Int)), zN, ((!decide ((at' gs (i.toNat * 5 + 2)).tmod (2 : Int) = (0 : Int))) = true), zY, zY]) zk
    ⟨zdo, (by omega), (load_mix 5 0 (by kernel_rfl) (by kernel_rfl) (Nat.le_of_ble_eq_true rfl) (by show _ % 5 = 0; omega) (Nat.le_of_ble_eq_true rfl) (by omega)), (lnBetween _ _ _), zdf, (lnBetween _ _ _), rfl, zdf, (lnBetween _ _ _), rfl, zdf, zds, rfl, zdf, rfl, rfl, trivial⟩ (Nat.le_of_ble_eq_true rfl) (Nat.le_of_ble_eq_true rfl) noRnd (noRanges (by kernel_rfl))) zt3
def hf_T5 (gs : List Int) (n : Nat) (T : Nat) (i : Int) : List V := (zq63 n i)
def hf_H5 (gs : List Int) (n : Nat) (T : Nat) (i : Int) : Heap := [bkG gs T]
theorem hf_5 (gs : List Int) (n : Nat) (T : Nat) (hz : n * 5 ≤ gs.length) (hn : n ≤ 20) (i : Int) (hi1 : 0 ≤ i) (f0 : i < (n : Int)) (f1 : M.btw (at' gs (i.toNat * 5)) 0 4194304 = true) (f2 : M.btw (at' gs (i.toNat * 5 + 1)) 0 4194304 = true) (f3 : M.btw (at' gs (i.toNat * 5 + 2)) 2 32768 = true) (f4 : (at' gs (i.toNat * 5 + 2)).tmod (2 : Int) = (0 : Int)) (f5 : M.btw (at' gs (i.toNat * 5 + 3)) 1 8192 = false) : Runs cfx 0 1 none (loopOf cfx.P 60 0) (hf_T gs n T i) (hf_H gs n T i) (Ex.ret) (hf_T5 gs n T i) (hf_H5 gs n T i) := by
  refine Runs.post (t1 := [.slo 0 n, uV, V.raw (.bool false), uV, .ptr 1 0, .slo 0 n, iV (n : Int), iV i, V.raw (.bool (decide (i < (n : Int)))), V.ptr 0 (i.toNat * 5), V.raw (.agg { toList := [.int .i64 (at' gs (i.toNat * 5)), .int .i64 (at' gs (i.toNat * 5 + 1)), .int .i64 (at' gs (i.toNat * 5 + 2)), .int .i64 (at' gs (i.toNat * 5 + 3)), .bool (nz gs (i.toNat * 5 + 4))] }), .ptr 1 0, iV (at' gs (i.toNat * 5)), V.raw (.bool (M.btw (at' gs (i.toNat * 5)) 0 4194304)), V.raw (.bool !M.btw (at' gs (i.toNat * 5)) 0 4194304), V.lit false, .ptr 1 1, iV (at' gs (i.toNat * 5 + 1)), V.raw (.bool (M.btw (at' gs (i.toNat * 5 + 1)) 0 4194304)), V.raw (.bool !M.btw (at' gs (i.toNat * 5 + 1)) 0 4194304), V.raw (.bool !M.btw (at' gs (i.toNat * 5 + 1)) 0 4194304), V.lit false, .ptr 1 2, iV (at' gs (i.toNat * 5 + 2)), V.raw (.bool (M.btw (at' gs (i.toNat * 5 + 2)) 2 32768)), V.raw (.bool !M.btw (at' gs (i.toNat * 5 + 2)) 2 32768), V.raw (.bool !M.btw (at' gs (i.toNat * 5 + 2)) 2 32768), V.lit false, .ptr 1 2, iV (at' gs (i.toNat * 5 + 2)), iV ((at' gs (i.toNat * 5 + 2)).tmod 2), V.raw (.bool !decide ((at' gs (i.toNat * 5 + 2)).tmod (2 : Int) = (0 : Int))), V.raw (.bool !decide ((at' gs (i.toNat * 5 + 2)).tmod (2 : Int) = (0 : Int))), V.lit false, .ptr 1 3, iV (at' gs (i.toNat * 5 + 3)), V.raw (.bool (M.btw (at' gs (i.toNat * 5 + 3)) 1 8192)), V.raw (.bool !M.btw (at' gs (i.toNat * 5 + 3)) 1 8192), V.raw (.bool !M.btw (at' gs (i.toNat * 5 + 3)) 1 8192), .any 39]) (h1 := (zq90 gs T i)) (body_of cfx_mixed cfx_call zz (rnd := none) (fi := 0) (k := 0) (n := 40) (n0 := 1) (ans := [zT, Ans.val 0 (V.raw (.agg { toList := [.int .i64 (at' gs (i.toNat * 5)), .int .i64 (at' gs (i.toNat * 5 + 1)), .int .i64 (at' gs (i.toNat * 5 + 2)), .int .i64 (at' gs (i.toNat * 5 + 3)), .bool (nz gs (i.toNat * 5 + 4))] })), Ans.ret (V.raw (.bool (M.btw (at' gs (i.toNat * 5)) 0 4194304))), zF, Ans.ret (V.raw (.bool (M.btw (at' gs (i.toNat * 5 + 1)) 0 4194304))), zF, zF, Ans.ret (V.raw (.bool (M.btw (at' gs (i.toNat * 5 + 2)) 2 32768))), zF, zF, zF, zF, Ans.ret (V.raw (.bool (M.btw (at' gs (i.toNat * 5 + 3)) 1 8192))), zF, zT]) (cons := [(decide (i < (n : Int)) = true), (0 ≤ i ∧ i < (n : Int)), (loadRow cfx 74 (mix [false, false, false, false, true] gs) (i.toNat * 5) = some (V.raw (.agg { toList := [.int .i64 (at' gs (i.toNat * 5)), .int .i64 (at' gs (i.toNat * 5 + 1)), .int .i64 (at' gs (i.toNat * 5 + 2)), .int .i64 (at' gs (i.toNat * 5 + 3)), .bool (nz gs (i.toNat * 5 + 4))] }))), ((zq105 gs i)), ((!M.btw (at' gs (i.toNat * 5)) 0 4194304) = false), ((zq102 gs i)), zN, ((!M.btw (at' gs (i.toNat * 5 + 1)) 0 4194304) = false), ((zq103 gs i)), zN, ((!M.btw (at' gs (i.toNat * 5 + 2)) 2 32768) = false), ((2 : Int) ≠ (0 : Int)), zN, ((!decide ((at' gs (i.toNat * 5 + 2)).tmod (2 : Int) = (0 : Int))) = false), (Ret cfx 32 [iV (at' gs (i.toNat * 5 + 3)), iV 1, iV 8192] (V.raw (.bool (M.btw (at' gs (i.toNat * 5 + 3)) 1 8192)))), zN, ((!M.btw (at' gs (i.toNat * 5 + 3)) 1 8192) = true)]) zk
    ⟨zdo, (by omega), (load_mix 5 0 (by kernel_rfl) (by kernel_rfl) (Nat.le_of_ble_eq_true rfl) (by show _ % 5 = 0; omega) (Nat.le_of_ble_eq_true rfl) (by omega)), (lnBetween _ _ _), zdf, (lnBetween _ _ _), rfl, zdf, (lnBetween _ _ _), rfl, zdf, zds, rfl, zdf, (lnBetween _ _ _), rfl, zdf, trivial⟩ (Nat.le_of_ble_eq_true rfl) (Nat.le_of_ble_eq_true rfl) noRnd (noRanges (by kernel_rfl))) zt3
theorem hf_6 (gs : List Int) (n : Nat) (T : Nat) (hz : n * 5 ≤ gs.length) (hn : n ≤ 20) (i : Int) (hi1 : 0 ≤ i) (f0 : i < (n : Int)) (f1 : M.btw (at' gs (i.toNat * 5)) 0 4194304 = true) (f2 : M.btw (at' gs (i.toNat * 5 + 1)) 0 4194304 = true) (f3 : M.btw (at' gs (i.toNat * 5 + 2)) 2 32768 = true) (f4 : (at' gs (i.toNat * 5 + 2)).tmod (2 : Int) = (0 : Int)) (f5 : M.btw (at' gs (i.toNat * 5 + 3)) 1 8192 = true) : Runs cfx 0 1 none (loopOf cfx.P 60 0) (hf_T gs n T i) (hf_H gs n T i) (Ex.normal) (hf_T gs n T (i + 1)) (hf_H gs n T (i + 1)) := by
  refine Runs.post (t1 := [.slo 0 n, uV, V.raw (.bool false), uV, .ptr 1 0, .slo 0 n, iV (n : Int), iV (i + 1), V.raw (.bool (decide (i < (n : Int)))), V.ptr 0 (i.toNat * 5), V.raw (.agg { toList := [.int .i64 (at' gs (i.toNat * 5)), .int .i64 (at' gs (i.toNat * 5 + 1)), .int .i64 (at' gs (i.toNat * 5 + 2)), .int .i64 (at' gs (i.toNat * 5 + 3)), .bool (nz gs (i.toNat * 5 + 4))] }), .ptr 1 0, iV (at' gs (i.toNat * 5)), V.raw (.bool (M.btw (at' gs (i.toNat * 5)) 0 4194304)), V.raw (.bool !M.btw (at' gs (i.toNat * 5)) 0 4194304), V.lit false, .ptr 1 1, iV (at' gs (i.toNat * 5 + 1)), V.raw (.bool (M.btw (at' gs (i.toNat * 5 + 1)) 0 4194304)), V.raw (.bool !M.btw (at' gs (i.toNat * 5 + 1)) 0 4194304), V.raw (.bool !M.btw (at' gs (i.toNat * 5 + 1)) 0 4194304), V.lit false, .ptr 1 2, iV (at' gs (i.toNat * 5 + 2)), V.raw (.bool (M.btw (at' gs (i.toNat * 5 + 2)) 2 32768)), V.raw (.bool !M.btw (at' gs (i.toNat * 5 + 2)) 2 32768), V.raw (.bool !M.btw (at' gs (i.toNat * 5 + 2)) 2 32768), V.lit false, .ptr 1 2, iV (at' gs (i.toNat * 5 + 2)), iV ((at' gs (i.toNat * 5 + 2)).tmod 2), V.raw (.bool !decide ((at' gs (i.toNat * 5 + 2)).tmod (2 : Int) = (0 : Int))), V.raw (.bool !decide ((at' gs (i.toNat * 5 + 2)).tmod (2 : Int) = (0 : Int))), V.lit false, .ptr 1 3, iV (at' gs (i.toNat * 5 + 3)), V.raw (.bool (M.btw (at' gs (i.toNat * 5 + 3)) 1 8192)), V.raw (.bool !M.btw (at' gs (i.toNat * 5 + 3)) 1 8192), V.raw (.bool !M.btw (at' gs (i.toNat * 5 + 3)) 1 8192), iV (i + 1)]) (h1 := (zq90 gs T i)) (body_of cfx_mixed cfx_call zz (rnd := none) (fi := 0) (k := 0) (n := 40) (n0 := 1) (ans := [zT, Ans.val 0 (V.raw (.agg { toList := [.int .i64 (at' gs (i.toNat * 5)), .int .i64 (at' gs (i.toNat * 5 + 1)), .int .i64 (at' gs (i.toNat * 5 + 2)), .int .i64 (at' gs (i.toNat * 5 + 3)), .bool (nz gs (i.toNat * 5 + 4))] })), Ans.ret (V.raw (.bool (M.btw (at' gs (i.toNat * 5)) 0 4194304))), zF, Ans.ret (V.raw (.bool (M.btw (at' gs (i.toNat * 5 + 1)) 0 4194304))), zF, zF, Ans.ret (V.raw (.bool (M.btw (at' gs (i.toNat * 5 + 2)) 2 32768))), zF, zF, zF, zF, Ans.ret (V.raw (.bool (M.btw (at' gs (i.toNat * 5 + 3)) 1 8192))), zF, zF]) (cons := [(decide (i < (n : Int)) = true), (0 ≤ i ∧ i < (n : Int)), (loadRow cfx 74 (mix [false, false, false, false, true] gs) (i.toNat * 5) = some (V.raw (.agg { toList := [.int .i64 (at' gs (i.toNat * 5)), .int .i64 (at' gs (i.toNat * 5 + 1)), .int .i64 (at' gs (i.toNat * 5 + 2)), .int .i64 (at' gs (i.toNat * 5 + 3)), .bool (nz gs (i.toNat * 5 + 4))] }))), ((zq105 gs i)), ((!M.btw (at' gs (i.toNat * 5)) 0 4194304) = false), ((zq102 gs i)), zN, ((!M.btw (at' gs (i.toNat * 5 + 1)) 0 4194304) = false), ((zq103 gs i)), zN, ((!M.btw (at' gs (i.toNat * 5 + 2)) 2 32768) = false), ((2 : Int) ≠ (0 : Int)), zN, ((!decide ((at' gs (i.toNat * 5 + 2)).tmod (2 : Int) = (0 : Int))) = false), (Ret cfx 32 [iV (at' gs (i.toNat * 5 + 3)), iV 1, iV 8192] (V.raw (.bool (M.btw (at' gs (i.toNat * 5 + 3)) 1 8192)))), zN, ((!M.btw (at' gs (i.toNat * 5 + 3)) 1 8192) = false), (inR IntKind.i64 (i + 1))]) zk
    ⟨zdo, (by omega), (load_mix 5 0 (by kernel_rfl) (by kernel_rfl) (Nat.le_of_ble_eq_true rfl) (by show _ % 5 = 0; omega) (Nat.le_of_ble_eq_true rfl) (by omega)), (lnBetween _ _ _), zdf, (lnBetween _ _ _), rfl, zdf, (lnBetween _ _ _), rfl, zdf, zds, rfl, zdf, (lnBetween _ _ _), rfl, zdf, inR_i64 (by omega) (by omega), trivial⟩ (Nat.le_of_ble_eq_true rfl) (Nat.le_of_ble_eq_true rfl) noRnd (noRanges (by kernel_rfl))) zt3
def hf_T7 (gs : List Int) (n : Nat) (T : Nat) (i : Int) : List V := (zq63 n i)
def hf_H7 (gs : List Int) (n : Nat) (T : Nat) (i : Int) : Heap := [bkG gs T]
theorem hf_7 (gs : List Int) (n : Nat) (T : Nat) (hz : n * 5 ≤ gs.length) (hn : n ≤ 20) (i : Int) (hi1 : 0 ≤ i) (f0 : ¬i < (n : Int)) : Runs cfx 0 1 none (loopOf cfx.P 60 0) (hf_T gs n T i) (hf_H gs n T i) (Ex.exit 0) (hf_T7 gs n T i) (hf_H7 gs n T i) := by
  refine Runs.post (t1 := (catV [.slo 0 n, uV, V.raw (.bool false), uV, .any 4, .slo 0 n, iV (n : Int), iV i, V.raw (.bool (decide (i < (n : Int))))] (anyR 9 31 []))) (h1 := [bkG gs T]) (body_of cfx_mixed cfx_call zz (rnd := none) (fi := 0) (k := 0) (n := 40) (n0 := 1) (ans := [zF]) (cons := [(decide (i < (n : Int)) = false)]) zk
    ⟨zdo, trivial⟩ zb zb noRnd (noRanges zk)) zt7
abbrev zq50 (nm : ByteArray) (w : Int) (g : Int) (y : Int) (n : Nat) (a : Int) (b : Int) (r : Int) (p : Int) (q : Int) (k : Nat) (i : Int) : List V := (catV [lwA nm w g y n a b r p q k, .ptr 2 0, V.raw (.bool false), uV] (anyR 4 31 (catV [.slo 1 k, iV (k : Int), iV i] (anyR 38 20 []))))
def cf_T (nm : ByteArray) (gs cs : List Int) (n k : Nat) (T U : Nat) (w g y a b r p q : Int) (i : Int) : List V := (zq50 nm w g y n a b r p q k i)
def cf_H (nm : ByteArray) (gs cs : List Int) (n k : Nat) (T U : Nat) (w g y a b r p q : Int) (i : Int) : Heap := [bkG gs T, bkI cs U, bkW nm w g y n a b r p q k]
def cf_T1 (nm : ByteArray) (gs cs : List Int) (n k : Nat) (T U : Nat) (w g y a b r p q : Int) (i : Int) : List V := (zq50 nm w g y n a b r p q k i)
def cf_H1 (nm : ByteArray) (gs cs : List Int) (n k : Nat) (T U : Nat) (w g y a b r p q : Int) (i : Int) : Heap := [bkG gs T, bkI cs U, bkW nm w g y n a b r p q k]
abbrev zq94 (gs : List Int) (T : Nat) (cs : List Int) (U : Nat) (nm : ByteArray) (w : Int) (g : Int) (y : Int) (n : Nat) (a : Int) (b : Int) (r : Int) (p : Int) (q : Int) (k : Nat) (i : Int) : Heap := [bkG gs T, bkI cs U, bkW nm w g y n a b r p q k, some (.cells [iV (at' cs (i.toNat * 3)), iV (at' cs (i.toNat * 3 + 1)), iV (at' cs (i.toNat * 3 + 2))] 46 .rw)]
abbrev zq107 (cs : List Int) (i : Int) : Prop := Ret cfx 32 [iV (at' cs (i.toNat * 3)), iV 0, iV 65536] (V.raw (.bool (M.btw (at' cs (i.toNat * 3)) 0 65536)))
theorem cf_1 (nm : ByteArray) (gs cs : List Int) (n k : Nat) (T U : Nat) (w g y a b r p q : Int) (hz : k * 3 ≤ cs.length) (hp : 1 ≤ p ∧ p ≤ 16) (hq : 1 ≤ q ∧ q ≤ 16) (hk : (k : Int) = p * q) (hk3 : k ≤ 256) (i : Int) (hi1 : 0 ≤ i) (f0 : i < (k : Int)) (f1 : M.btw (at' cs (i.toNat * 3)) 0 65536 = false) : Runs cfx 0 3 none (loopOf cfx.P 61 0) (cf_T nm gs cs n k T U w g y a b r p q i) (cf_H nm gs cs n k T U w g y a b r p q i) (Ex.ret) (cf_T1 nm gs cs n k T U w g y a b r p q i) (cf_H1 nm gs cs n k T U w g y a b r p q i) := by
  refine Runs.post (t1 := (catV [lwA nm w g y n a b r p q k, .ptr 2 0, V.raw (.bool false), uV, .ptr 3 0] (anyR 5 30 [.slo 1 k, iV (k : Int), iV i, V.raw (.bool (decide (i < (k : Int)))), V.ptr 1 (i.toNat * 3), (rowV cs (i.toNat * 3) 3), .ptr 3 0, iV (at' cs (i.toNat * 3)), V.raw (.bool (M.btw (at' cs (i.toNat * 3)) 0 65536)), V.raw (.bool !M.btw (at' cs (i.toNat * 3)) 0 65536), V.lit true, uV, uV, uV, uV, V.raw (.bool true), V.lit true, uV, uV, uV, uV, V.raw (.bool true), .any 57]))) (h1 := (zq94 gs T cs U nm w g y n a b r p q k i)) (body_of cfx_mixed cfx_call zz (rnd := none) (fi := 0) (k := 0) (n := 40) (n0 := 3) (ans := [zT, Ans.val 1 ((rowV cs (i.toNat * 3) 3)), Ans.ret (V.raw (.bool (M.btw (at' cs (i.toNat * 3)) 0 65536))), zT, zT, zT, zT, zT]) (cons := [(decide (i < (k : Int)) = true), (0 ≤ i ∧ i < (k : Int)), (loadRow cfx 46 (ints cs) (i.toNat * 3) = some ((rowV cs (i.toNat * 3) 3))), ((zq107 cs i)), ((!M.btw (at' cs (i.toNat * 3)) 0 65536) = true), zY, zY, zY, zY]) zk
    ⟨zdo, zo, (load_agg 3 zk zk zb zo), (lnBetween _ _ _), zdf, rfl, rfl, rfl, rfl, trivial⟩ zb zb noRnd (noRanges zk)) zt4
def cf_T2 (nm : ByteArray) (gs cs : List Int) (n k : Nat) (T U : Nat) (w g y a b r p q : Int) (i : Int) : List V := (zq50 nm w g y n a b r p q k i)
def cf_H2 (nm : ByteArray) (gs cs : List Int) (n k : Nat) (T U : Nat) (w g y a b r p q : Int) (i : Int) : Heap := [bkG gs T, bkI cs U, bkW nm w g y n a b r p q k]
abbrev zq106 (cs : List Int) (i : Int) : Prop := Ret cfx 98 [iV (at' cs (i.toNat * 3 + 1))] (V.raw (.bool (M.btw (at' cs (i.toNat * 3 + 1)) (-4096 : Int) 4096)))
theorem cf_2 (nm : ByteArray) (gs cs : List Int) (n k : Nat) (T U : Nat) (w g y a b r p q : Int) (hz : k * 3 ≤ cs.length) (hp : 1 ≤ p ∧ p ≤ 16) (hq : 1 ≤ q ∧ q ≤ 16) (hk : (k : Int) = p * q) (hk3 : k ≤ 256) (i : Int) (hi1 : 0 ≤ i) (f0 : i < (k : Int)) (f1 : M.btw (at' cs (i.toNat * 3)) 0 65536 = true) (f2 : M.btw (at' cs (i.toNat * 3 + 1)) (-4096 : Int) 4096 = false) : Runs cfx 0 3 none (loopOf cfx.P 61 0) (cf_T nm gs cs n k T U w g y a b r p q i) (cf_H nm gs cs n k T U w g y a b r p q i) (Ex.ret) (cf_T2 nm gs cs n k T U w g y a b r p q i) (cf_H2 nm gs cs n k T U w g y a b r p q i) := by
  refine Runs.post (t1 := (catV [lwA nm w g y n a b r p q k, .ptr 2 0, V.raw (.bool false), uV, .ptr 3 0] (anyR 5 30 [.slo 1 k, iV (k : Int), iV i, V.raw (.bool (decide (i < (k : Int)))), V.ptr 1 (i.toNat * 3), (rowV cs (i.toNat * 3) 3), .ptr 3 0, iV (at' cs (i.toNat * 3)), V.raw (.bool (M.btw (at' cs (i.toNat * 3)) 0 65536)), V.raw (.bool !M.btw (at' cs (i.toNat * 3)) 0 65536), V.lit false, .ptr 3 1, iV (at' cs (i.toNat * 3 + 1)), V.raw (.bool (M.btw (at' cs (i.toNat * 3 + 1)) (-4096 : Int) 4096)), V.raw (.bool !M.btw (at' cs (i.toNat * 3 + 1)) (-4096 : Int) 4096), V.raw (.bool !M.btw (at' cs (i.toNat * 3 + 1)) (-4096 : Int) 4096), V.lit true, uV, uV, uV, uV, V.raw (.bool true), .any 57]))) (h1 := (zq94 gs T cs U nm w g y n a b r p q k i)) (body_of cfx_mixed cfx_call zz (rnd := none) (fi := 0) (k := 0) (n := 40) (n0 := 3) (ans := [zT, Ans.val 1 ((rowV cs (i.toNat * 3) 3)), Ans.ret (V.raw (.bool (M.btw (at' cs (i.toNat * 3)) 0 65536))), zF, Ans.ret (V.raw (.bool (M.btw (at' cs (i.toNat * 3 + 1)) (-4096 : Int) 4096))), zF, zT, zT, zT]) (cons := [(decide (i < (k : Int)) = true), (0 ≤ i ∧ i < (k : Int)), (loadRow cfx 46 (ints cs) (i.toNat * 3) = some ((rowV cs (i.toNat * 3) 3))), ((zq107 cs i)), ((!M.btw (at' cs (i.toNat * 3)) 0 65536) = false), ((zq106 cs i)), zN, ((!M.btw (at' cs (i.toNat * 3 + 1)) (-4096 : Int) 4096) = true), zY, zY]) zk
    ⟨zdo, zo, (load_agg 3 zk zk zb zo), (lnBetween _ _ _), zdf, (lnIsSlope _), rfl, zdf, rfl, rfl, trivial⟩ zb zb noRnd (noRanges zk)) zt4
def cf_T3 (nm : ByteArray) (gs cs : List Int) (n k : Nat) (T U : Nat) (w g y a b r p q : Int) (i : Int) : List V := (zq50 nm w g y n a b r p q k i)
def cf_H3 (nm : ByteArray) (gs cs : List Int) (n k : Nat) (T U : Nat) (w g y a b r p q : Int) (i : Int) : Heap := [bkG gs T, bkI cs U, bkW nm w g y n a b r p q k]
theorem cf_3 (nm : ByteArray) (gs cs : List Int) (n k : Nat) (T U : Nat) (w g y a b r p q : Int) (hz : k * 3 ≤ cs.length) (hp : 1 ≤ p ∧ p ≤ 16) (hq : 1 ≤ q ∧ q ≤ 16) (hk : (k : Int) = p * q) (hk3 : k ≤ 256) (i : Int) (hi1 : 0 ≤ i) (f0 : i < (k : Int)) (f1 : M.btw (at' cs (i.toNat * 3)) 0 65536 = true) (f2 : M.btw (at' cs (i.toNat * 3 + 1)) (-4096 : Int) 4096 = true) (f3 : M.btw (at' cs (i.toNat * 3 + 2)) (-4096 : Int) 4096 = false) : Runs cfx 0 3 none (loopOf cfx.P 61 0) (cf_T nm gs cs n k T U w g y a b r p q i) (cf_H nm gs cs n k T U w g y a b r p q i) (Ex.ret) (cf_T3 nm gs cs n k T U w g y a b r p q i) (cf_H3 nm gs cs n k T U w g y a b r p q i) := by
  refine Runs.post (t1 := (catV [lwA nm w g y n a b r p q k, .ptr 2 0, V.raw (.bool false), uV, .ptr 3 0] (anyR 5 30 [.slo 1 k, iV (k : Int), iV i, V.raw (.bool (decide (i < (k : Int)))), V.ptr 1 (i.toNat * 3), (rowV cs (i.toNat * 3) 3), .ptr 3 0, iV (at' cs (i.toNat * 3)), V.raw (.bool (M.btw (at' cs (i.toNat * 3)) 0 65536)), V.raw (.bool !M.btw (at' cs (i.toNat * 3)) 0 65536), V.lit false, .ptr 3 1, iV (at' cs (i.toNat * 3 + 1)), V.raw (.bool (M.btw (at' cs (i.toNat * 3 + 1)) (-4096 : Int) 4096)), V.raw (.bool !M.btw (at' cs (i.toNat * 3 + 1)) (-4096 : Int) 4096), V.raw (.bool !M.btw (at' cs (i.toNat * 3 + 1)) (-4096 : Int) 4096), V.lit false, .ptr 3 2, iV (at' cs (i.toNat * 3 + 2)), V.raw (.bool (M.btw (at' cs (i.toNat * 3 + 2)) (-4096 : Int) 4096)), V.raw (.bool !M.btw (at' cs (i.toNat * 3 + 2)) (-4096 : Int) 4096), V.raw (.bool !M.btw (at' cs (i.toNat * 3 + 2)) (-4096 : Int) 4096), .any 57]))) (h1 := (zq94 gs T cs U nm w g y n a b r p q k i)) (body_of cfx_mixed cfx_call zz (rnd := none) (fi := 0) (k := 0) (n := 40) (n0 := 3) (ans := [zT, Ans.val 1 ((rowV cs (i.toNat * 3) 3)), Ans.ret (V.raw (.bool (M.btw (at' cs (i.toNat * 3)) 0 65536))), zF, Ans.ret (V.raw (.bool (M.btw (at' cs (i.toNat * 3 + 1)) (-4096 : Int) 4096))), zF, zF, Ans.ret (V.raw (.bool (M.btw (at' cs (i.toNat * 3 + 2)) (-4096 : Int) 4096))), zF, zT]) (cons := [(decide (i < (k : Int)) = true), (0 ≤ i ∧ i < (k : Int)), (loadRow cfx 46 (ints cs) (i.toNat * 3) = some ((rowV cs (i.toNat * 3) 3))), ((zq107 cs i)), ((!M.btw (at' cs (i.toNat * 3)) 0 65536) = false), ((zq106 cs i)), zN, ((!M.btw (at' cs (i.toNat * 3 + 1)) (-4096 : Int) 4096) = false), (Ret cfx 98 [iV (at' cs (i.toNat * 3 + 2))] (V.raw (.bool (M.btw (at' cs (i.toNat * 3 + 2)) (-4096 : Int) 4096)))), zN, ((!M.btw (at' cs (i.toNat * 3 + 2)) (-4096 : Int) 4096) = true)]) zk
    ⟨zdo, zo, (load_agg 3 zk zk zb zo), (lnBetween _ _ _), zdf, (lnIsSlope _), rfl, zdf, (lnIsSlope _), rfl, zdf, trivial⟩ zb zb noRnd (noRanges zk)) zt4
theorem cf_4 (nm : ByteArray) (gs cs : List Int) (n k : Nat) (T U : Nat) (w g y a b r p q : Int) (hz : k * 3 ≤ cs.length) (hp : 1 ≤ p ∧ p ≤ 16) (hq : 1 ≤ q ∧ q ≤ 16) (hk : (k : Int) = p * q) (hk3 : k ≤ 256) (i : Int) (hi1 : 0 ≤ i) (f0 : i < (k : Int)) (f1 : M.btw (at' cs (i.toNat * 3)) 0 65536 = true) (f2 : M.btw (at' cs (i.toNat * 3 + 1)) (-4096 : Int) 4096 = true) (f3 : M.btw (at' cs (i.toNat * 3 + 2)) (-4096 : Int) 4096 = true) : Runs cfx 0 3 none (loopOf cfx.P 61 0) (cf_T nm gs cs n k T U w g y a b r p q i) (cf_H nm gs cs n k T U w g y a b r p q i) (Ex.normal) (cf_T nm gs cs n k T U w g y a b r p q (i + 1)) (cf_H nm gs cs n k T U w g y a b r p q (i + 1)) := by
  refine Runs.post (t1 := (catV [lwA nm w g y n a b r p q k, .ptr 2 0, V.raw (.bool false), uV, .ptr 3 0] (anyR 5 30 [.slo 1 k, iV (k : Int), iV (i + 1), V.raw (.bool (decide (i < (k : Int)))), V.ptr 1 (i.toNat * 3), (rowV cs (i.toNat * 3) 3), .ptr 3 0, iV (at' cs (i.toNat * 3)), V.raw (.bool (M.btw (at' cs (i.toNat * 3)) 0 65536)), V.raw (.bool !M.btw (at' cs (i.toNat * 3)) 0 65536), V.lit false, .ptr 3 1, iV (at' cs (i.toNat * 3 + 1)), V.raw (.bool (M.btw (at' cs (i.toNat * 3 + 1)) (-4096 : Int) 4096)), V.raw (.bool !M.btw (at' cs (i.toNat * 3 + 1)) (-4096 : Int) 4096), V.raw (.bool !M.btw (at' cs (i.toNat * 3 + 1)) (-4096 : Int) 4096), V.lit false, .ptr 3 2, iV (at' cs (i.toNat * 3 + 2)), V.raw (.bool (M.btw (at' cs (i.toNat * 3 + 2)) (-4096 : Int) 4096)), V.raw (.bool !M.btw (at' cs (i.toNat * 3 + 2)) (-4096 : Int) 4096), V.raw (.bool !M.btw (at' cs (i.toNat * 3 + 2)) (-4096 : Int) 4096), iV (i + 1)]))) (h1 := (zq94 gs T cs U nm w g y n a b r p q k i)) (body_of cfx_mixed cfx_call zz (rnd := none) (fi := 0) (k := 0) (n := 40) (n0 := 3) (ans := [zT, Ans.val 1 ((rowV cs (i.toNat * 3) 3)), Ans.ret (V.raw (.bool (M.btw (at' cs (i.toNat * 3)) 0 65536))), zF, Ans.ret (V.raw (.bool (M.btw (at' cs (i.toNat * 3 + 1)) (-4096 : Int) 4096))), zF, zF, Ans.ret (V.raw (.bool (M.btw (at' cs (i.toNat * 3 + 2)) (-4096 : Int) 4096))), zF, zF]) (cons := [(decide (i < (k : Int)) = true), (0 ≤ i ∧ i < (k : Int)), (loadRow cfx 46 (ints cs) (i.toNat * 3) = some ((rowV cs (i.toNat * 3) 3))), ((zq107 cs i)), ((!M.btw (at' cs (i.toNat * 3)) 0 65536) = false), ((zq106 cs i)), zN, ((!M.btw (at' cs (i.toNat * 3 + 1)) (-4096 : Int) 4096) = false), (Ret cfx 98 [iV (at' cs (i.toNat * 3 + 2))] (V.raw (.bool (M.btw (at' cs (i.toNat * 3 + 2)) (-4096 : Int) 4096)))), zN, ((!M.btw (at' cs (i.toNat * 3 + 2)) (-4096 : Int) 4096) = false), (inR IntKind.i64 (i + 1))]) zk
    ⟨zdo, zo, (load_agg 3 zk zk zb zo), (lnBetween _ _ _), zdf, (lnIsSlope _), rfl, zdf, (lnIsSlope _), rfl, zdf, inR_i64 zo zo, trivial⟩ zb zb noRnd (noRanges zk)) zt4
def cf_T5 (nm : ByteArray) (gs cs : List Int) (n k : Nat) (T U : Nat) (w g y a b r p q : Int) (i : Int) : List V := (zq50 nm w g y n a b r p q k i)
def cf_H5 (nm : ByteArray) (gs cs : List Int) (n k : Nat) (T U : Nat) (w g y a b r p q : Int) (i : Int) : Heap := [bkG gs T, bkI cs U, bkW nm w g y n a b r p q k]
theorem cf_5 (nm : ByteArray) (gs cs : List Int) (n k : Nat) (T U : Nat) (w g y a b r p q : Int) (hz : k * 3 ≤ cs.length) (hp : 1 ≤ p ∧ p ≤ 16) (hq : 1 ≤ q ∧ q ≤ 16) (hk : (k : Int) = p * q) (hk3 : k ≤ 256) (i : Int) (hi1 : 0 ≤ i) (f0 : ¬i < (k : Int)) : Runs cfx 0 3 none (loopOf cfx.P 61 0) (cf_T nm gs cs n k T U w g y a b r p q i) (cf_H nm gs cs n k T U w g y a b r p q i) (Ex.exit 0) (cf_T5 nm gs cs n k T U w g y a b r p q i) (cf_H5 nm gs cs n k T U w g y a b r p q i) := by
  refine Runs.post (t1 := (catV [lwA nm w g y n a b r p q k, .ptr 2 0, V.raw (.bool false), uV] (anyR 4 31 (catV [.slo 1 k, iV (k : Int), iV i, V.raw (.bool (decide (i < (k : Int))))] (anyR 39 19 []))))) (h1 := [bkG gs T, bkI cs U, bkW nm w g y n a b r p q k]) (body_of cfx_mixed cfx_call zz (rnd := none) (fi := 0) (k := 0) (n := 40) (n0 := 3) (ans := [zF]) (cons := [(decide (i < (k : Int)) = false)]) zk
    ⟨zdo, trivial⟩ zb zb noRnd (noRanges zk)) zt4
variable (nm : ByteArray) (gs cs : List Int) (n k : Nat) (T U : Nat) (w g y a b r p q : Int)
def M.cellsB (cs : List Int) (k : Nat) : Bool := (List.range k).all (M.cellZ cs)
theorem cf_loop (nm : ByteArray) (gs cs : List Int) (n k : Nat) (T U : Nat) (w g y a b r p q : Int) (hz : k * 3 ≤ cs.length) (hp : 1 ≤ p ∧ p ≤ 16) (hq : 1 ≤ q ∧ q ≤ 16) (hk : (k : Int) = p * q) (hk3 : k ≤ 256) : (M.cellsB cs k = true ∧ Runs cfx 0 3 none (.loop (loopOf cfx.P 61 0)) (cf_T nm gs cs n k T U w g y a b r p q 0) (cf_H nm gs cs n k T U w g y a b r p q 0) (.exit 0) (cf_T5 nm gs cs n k T U w g y a b r p q k) (cf_H5 nm gs cs n k T U w g y a b r p q k)) ∨ (M.cellsB cs k = false ∧ ∃ i : Nat, Runs cfx 0 3 none (.loop (loopOf cfx.P 61 0)) (cf_T nm gs cs n k T U w g y a b r p q 0) (cf_H nm gs cs n k T U w g y a b r p q 0) (.ret) (cf_T1 nm gs cs n k T U w g y a b r p q i) (cf_H1 nm gs cs n k T U w g y a b r p q i)) := by
  rcases upto_find (c := cfx) (lim := 0) (n0 := 3) (x := loopOf cfx.P 61 0) noRnd (M.cellZ cs) (fun i : Nat => cf_T nm gs cs n k T U w g y a b r p q i) (fun i : Nat => cf_H nm gs cs n k T U w g y a b r p q i) k (fun i : Nat => cf_T1 nm gs cs n k T U w g y a b r p q i) (fun i : Nat => cf_H1 nm gs cs n k T U w g y a b r p q i) (e := .exit 0) (e1 := .ret) (by simp) (by simp)
    (fun i hi hg => by
      simp only [M.cellZ, M.cellB, Bool.and_eq_true] at hg
      obtain ⟨⟨q1, q2⟩, q3⟩ := hg
      exact cf_4 nm gs cs n k T U w g y a b r p q hz hp hq hk hk3 i zo zo q1 q2 q3)
    (fun i hi hg => by
      cases q1 : M.btw (at' cs (i * 3)) 0 65536 with
      | false => exact cf_1 nm gs cs n k T U w g y a b r p q hz hp hq hk hk3 i zo zo q1
      | true =>
      cases q2 : M.btw (at' cs (i * 3 + 1)) (-4096) 4096 with
      | false => exact cf_2 nm gs cs n k T U w g y a b r p q hz hp hq hk hk3 i zo zo q1 q2
      | true =>
      cases q3 : M.btw (at' cs (i * 3 + 2)) (-4096) 4096 with
      | false => exact cf_3 nm gs cs n k T U w g y a b r p q hz hp hq hk hk3 i zo zo q1 q2 q3
      | true => simp [M.cellZ, M.cellB, q1, q2, q3] at hg)
    (cf_5 nm gs cs n k T U w g y a b r p q hz hp hq hk hk3 k zo zo) with ⟨h1, h2⟩ | ⟨h1, i, hi, h2, h3, h4⟩
  · exact .inl ⟨h1, h2⟩
  · exact .inr ⟨h1, i, h4⟩
abbrev zq33 (nm : ByteArray) (w : Int) (g : Int) (y : Int) (n : Nat) (a : Int) (b : Int) (r : Int) (p : Int) (q : Int) (k : Nat) : List V := (catV [lwA nm w g y n a b r p q k, .ptr 2 0, V.raw (.bool false), uV, uV, .ptr 2 8, iV p, V.raw (.bool (decide (p < 1))), V.lit false, .ptr 2 8, iV p, V.raw (.bool (decide (16 < p))), V.raw (.bool (decide (16 < p))), V.lit false, .ptr 2 9, iV q, V.raw (.bool (decide (q < 1))), V.raw (.bool (decide (q < 1))), V.lit false, .ptr 2 9, iV q, V.raw (.bool (decide (16 < q))), V.raw (.bool (decide (16 < q))), V.lit false, .ptr 2 10, .slo 1 k, iV (k : Int), .ptr 2 8, iV p, .ptr 2 9, iV q, iV (p * q), V.raw (.bool !decide ((k : Int) = p * q)), V.raw (.bool !decide ((k : Int) = p * q)), .ptr 2 10, .slo 1 k, iV (k : Int), iV 0] (repU 20 []))
abbrev zq48 (nm : ByteArray) (w : Int) (g : Int) (y : Int) (n : Nat) (a : Int) (b : Int) (r : Int) (p : Int) (q : Int) (k : Nat) : List V := (catV [lwA nm w g y n a b r p q k, .ptr 2 0, V.raw (.bool false), uV] (anyR 4 31 (catV [.slo 1 k, iV (k : Int), iV (k : Int)] (anyR 38 20 []))))
theorem cellsFit_ok (nm : ByteArray) (gs cs : List Int) (n k : Nat) (T U : Nat) (w g y a b r p q : Int) (hz : k * 3 ≤ cs.length) (hp : 1 ≤ p ∧ p ≤ 16) (hq : 1 ≤ q ∧ q ≤ 16) (hk : (k : Int) = p * q) (hk3 : k ≤ 256) (hR : Runs cfx 0 3 none (.loop (loopOf cfx.P 61 0)) (cf_T nm gs cs n k T U w g y a b r p q 0) (cf_H nm gs cs n k T U w g y a b r p q 0) (.exit 0) (cf_T5 nm gs cs n k T U w g y a b r p q k) (cf_H5 nm gs cs n k T U w g y a b r p q k))  : Meets cfx 0 61 [lwA nm w g y n a b r p q k] [bkG gs T, bkI cs U] (V.raw (.bool true)) [bkG gs T, bkI cs U] := by
  refine Meets.post (mev (ans := [Ans.go, zF, zF, zF, zF, zF, zF, zF, zF, zF, Ans.loop (Ex.exit 0) (zq48 nm w g y n a b r p q k) [bkG gs T, bkI cs U, bkW nm w g y n a b r p q k]]) (v := V.raw (.bool true)) (h' := [bkG gs T, bkI cs U, bkW nm w g y n a b r p q k]) (cons := [(decide (p < 1) = false), zN, (decide (16 < p) = false), zN, (decide (q < 1) = false), zN, (decide (16 < q) = false), (inR IntKind.i64 (p * q)), zN, ((!decide ((k : Int) = p * q)) = false), (Runs cfx 0 3 none (.loop (loopOf cfx.P 61 0)) (zq33 nm w g y n a b r p q k) [bkG gs T, bkI cs U, bkW nm w g y n a b r p q k] (Ex.exit 0) (zq48 nm w g y n a b r p q k) [bkG gs T, bkI cs U, bkW nm w g y n a b r p q k])]) zk
    ⟨zdo, rfl, zdo, rfl, zdo, rfl, zdo, inR_i64 zo zo, rfl, zdf, (by
      refine Runs.pre (fun b e => by cases e) (fun RT RH => ?_) (hR)
      exact reshape2 (lim := 0) 3 (t := (zq33 nm w g y n a b r p q k)) (h := [bkG gs T, bkI cs U, bkW nm w g y n a b r p q k]) cfx_G rfl [] zk zk zdr RT RH), trivial⟩) zk zt0
abbrev zq49 (nm : ByteArray) (w : Int) (g : Int) (y : Int) (n : Nat) (a : Int) (b : Int) (r : Int) (p : Int) (q : Int) (k : Nat) (i : Nat) : List V := (catV [lwA nm w g y n a b r p q k, .ptr 2 0, V.raw (.bool false), uV] (anyR 4 31 (catV [.slo 1 k, iV (k : Int), iV (i : Int)] (anyR 38 20 []))))
theorem cellsFit_bad (nm : ByteArray) (gs cs : List Int) (n k : Nat) (T U : Nat) (w g y a b r p q : Int) (hz : k * 3 ≤ cs.length) (hp : 1 ≤ p ∧ p ≤ 16) (hq : 1 ≤ q ∧ q ≤ 16) (hk : (k : Int) = p * q) (hk3 : k ≤ 256) (i : Nat) (hR : Runs cfx 0 3 none (.loop (loopOf cfx.P 61 0)) (cf_T nm gs cs n k T U w g y a b r p q 0) (cf_H nm gs cs n k T U w g y a b r p q 0) (.ret) (cf_T1 nm gs cs n k T U w g y a b r p q i) (cf_H1 nm gs cs n k T U w g y a b r p q i))  : Meets cfx 0 61 [lwA nm w g y n a b r p q k] [bkG gs T, bkI cs U] (V.raw (.bool false)) [bkG gs T, bkI cs U] := by
  refine Meets.post (mev (ans := [Ans.go, zF, zF, zF, zF, zF, zF, zF, zF, zF, Ans.loop Ex.ret (zq49 nm w g y n a b r p q k i) [bkG gs T, bkI cs U, bkW nm w g y n a b r p q k]]) (v := V.raw (.bool false)) (h' := [bkG gs T, bkI cs U, bkW nm w g y n a b r p q k]) (cons := [(decide (p < 1) = false), zN, (decide (16 < p) = false), zN, (decide (q < 1) = false), zN, (decide (16 < q) = false), (inR IntKind.i64 (p * q)), zN, ((!decide ((k : Int) = p * q)) = false), (Runs cfx 0 3 none (.loop (loopOf cfx.P 61 0)) (zq33 nm w g y n a b r p q k) [bkG gs T, bkI cs U, bkW nm w g y n a b r p q k] (Ex.ret) (zq49 nm w g y n a b r p q k i) [bkG gs T, bkI cs U, bkW nm w g y n a b r p q k])]) zk
    ⟨zdo, rfl, zdo, rfl, zdo, rfl, zdo, inR_i64 zo zo, rfl, zdf, (by
      refine Runs.pre (fun b e => by cases e) (fun RT RH => ?_) (hR)
      exact reshape2 (lim := 0) 3 (t := (zq33 nm w g y n a b r p q k)) (h := [bkG gs T, bkI cs U, bkW nm w g y n a b r p q k]) cfx_G rfl [] zk zk zdr RT RH), trivial⟩) zk zt0
theorem cellsFit_no0 (h1 : p < 1)  : Meets cfx 0 61 [lwA nm w g y n a b r p q k] [bkG gs T, bkI cs U] (V.raw (.bool false)) [bkG gs T, bkI cs U] := by
  refine Meets.post (mev (ans := [Ans.go, zT, zT, zT, zT, zT, zT, zT, zT, zT]) (v := V.raw (.bool false)) (h' := [bkG gs T, bkI cs U, bkW nm w g y n a b r p q k]) (cons := [(decide (p < 1) = true), zY, zY, zY, zY, zY, zY, zY, zY]) zk
    ⟨zdo, rfl, rfl, rfl, rfl, rfl, rfl, rfl, rfl, trivial⟩) zk zt0
theorem cellsFit_no1 (h1 : ¬ p < 1) (h2 : 16 < p)  : Meets cfx 0 61 [lwA nm w g y n a b r p q k] [bkG gs T, bkI cs U] (V.raw (.bool false)) [bkG gs T, bkI cs U] := by
  refine Meets.post (mev (ans := [Ans.go, zF, zF, zT, zT, zT, zT, zT, zT, zT]) (v := V.raw (.bool false)) (h' := [bkG gs T, bkI cs U, bkW nm w g y n a b r p q k]) (cons := [(decide (p < 1) = false), zN, (decide (16 < p) = true), zY, zY, zY, zY, zY, zY]) zk
    ⟨zdo, rfl, zdo, rfl, rfl, rfl, rfl, rfl, rfl, trivial⟩) zk zt0
theorem cellsFit_no2 (h1 : ¬ p < 1) (h2 : ¬ 16 < p) (h3 : q < 1)  : Meets cfx 0 61 [lwA nm w g y n a b r p q k] [bkG gs T, bkI cs U] (V.raw (.bool false)) [bkG gs T, bkI cs U] := by
  refine Meets.post (mev (ans := [Ans.go, zF, zF, zF, zF, zT, zT, zT, zT, zT]) (v := V.raw (.bool false)) (h' := [bkG gs T, bkI cs U, bkW nm w g y n a b r p q k]) (cons := [(decide (p < 1) = false), zN, (decide (16 < p) = false), zN, (decide (q < 1) = true), zY, zY, zY, zY]) zk
    ⟨zdo, rfl, zdo, rfl, zdo, rfl, rfl, rfl, rfl, trivial⟩) zk zt0
theorem cellsFit_no3 (h1 : ¬ p < 1) (h2 : ¬ 16 < p) (h3 : ¬ q < 1) (h4 : 16 < q)  : Meets cfx 0 61 [lwA nm w g y n a b r p q k] [bkG gs T, bkI cs U] (V.raw (.bool false)) [bkG gs T, bkI cs U] := by
  refine Meets.post (mev (ans := [Ans.go, zF, zF, zF, zF, zF, zF, zT, zT, zT]) (v := V.raw (.bool false)) (h' := [bkG gs T, bkI cs U, bkW nm w g y n a b r p q k]) (cons := [(decide (p < 1) = false), zN, (decide (16 < p) = false), zN, (decide (q < 1) = false), zN, (decide (16 < q) = true), zY, zY]) zk
    ⟨zdo, rfl, zdo, rfl, zdo, rfl, zdo, rfl, rfl, trivial⟩) zk zt0
theorem cellsFit_no4 (nm : ByteArray) (gs cs : List Int) (n k : Nat) (T U : Nat) (w g y a b r p q : Int) (h1 : ¬ p < 1) (h2 : ¬ 16 < p) (h3 : ¬ q < 1) (h4 : ¬ 16 < q) (h0 : p * q ≤ 256 ∧ 0 ≤ p * q) (h5 : ¬ (k : Int) = p * q)  : Meets cfx 0 61 [lwA nm w g y n a b r p q k] [bkG gs T, bkI cs U] (V.raw (.bool false)) [bkG gs T, bkI cs U] := by
  refine Meets.post (mev (ans := [Ans.go, zF, zF, zF, zF, zF, zF, zF, zF, zT]) (v := V.raw (.bool false)) (h' := [bkG gs T, bkI cs U, bkW nm w g y n a b r p q k]) (cons := [(decide (p < 1) = false), zN, (decide (16 < p) = false), zN, (decide (q < 1) = false), zN, (decide (16 < q) = false), (inR IntKind.i64 (p * q)), zN, ((!decide ((k : Int) = p * q)) = true)]) zk
    ⟨zdo, rfl, zdo, rfl, zdo, rfl, zdo, inR_i64 zo zo, rfl, zdf, trivial⟩) zk zt0
def M.gridB (cs : List Int) (k : Nat) (p q : Int) : Bool := decide (1 ≤ p) && decide (p ≤ 16) && decide (1 ≤ q) && decide (q ≤ 16) && decide ((k : Int) = p * q) && M.cellsB cs k
theorem cellsFit_all (hz : k * 3 ≤ cs.length) : Meets cfx 0 61 [lwA nm w g y n a b r p q k] [bkG gs T, bkI cs U] (.raw (.bool (M.gridB cs k p q))) [bkG gs T, bkI cs U] := by
  unfold M.gridB
  by_cases h1 : p < 1
  · rw [decide_eq_false (show ¬ 1 ≤ p by omega)]
    exact cellsFit_no0 nm gs cs n k T U w g y a b r p q h1
  by_cases h2 : 16 < p
  · rw [decide_eq_false (show ¬ p ≤ 16 by omega)]
    simp only [Bool.and_false, Bool.false_and]
    exact cellsFit_no1 nm gs cs n k T U w g y a b r p q h1 h2
  by_cases h3 : q < 1
  · rw [decide_eq_false (show ¬ 1 ≤ q by omega)]
    simp only [Bool.and_false, Bool.false_and]
    exact cellsFit_no2 nm gs cs n k T U w g y a b r p q h1 h2 h3
  by_cases h4 : 16 < q
  · rw [decide_eq_false (show ¬ q ≤ 16 by omega)]
    simp only [Bool.and_false, Bool.false_and]
    exact cellsFit_no3 nm gs cs n k T U w g y a b r p q h1 h2 h3 h4
  have h0 : p * q ≤ 256 ∧ 0 ≤ p * q := by
    have a1 : p * q ≤ 16 * 16 := Int.mul_le_mul zo zo zo zo
    have a2 : 0 ≤ p * q := Int.mul_nonneg zo zo
    omega
  by_cases h5 : (k : Int) = p * q
  · rw [decide_eq_true (show 1 ≤ p by omega), decide_eq_true (show p ≤ 16 by omega), decide_eq_true (show 1 ≤ q by omega), decide_eq_true (show q ≤ 16 by omega), decide_eq_true h5]
    simp only [Bool.true_and]
    rcases cf_loop nm gs cs n k T U w g y a b r p q hz zo zo h5 zo with ⟨e1, e2⟩ | ⟨e1, i, e2⟩
    · rw [e1]; exact cellsFit_ok nm gs cs n k T U w g y a b r p q hz (by omega) (by omega) h5 (by omega) e2
    · rw [e1]; exact cellsFit_bad nm gs cs n k T U w g y a b r p q hz (by omega) (by omega) h5 (by omega) i e2
  · rw [decide_eq_false h5]
    simp only [Bool.and_false, Bool.false_and]
    exact cellsFit_no4 nm gs cs n k T U w g y a b r p q h1 h2 h3 h4 h0 h5
theorem lnWires_1 (x y g w : Int) (b : Bool) (hx : M.hoopB x y g w = true) (f0 : b = true) : Ret cfx 63 [.raw (.agg #[.int .i64 x, .int .i64 y, .int .i64 g, .int .i64 w, .bool b])] (V.raw (.agg { toList := [.int .i64 (x - 0), .int .i64 (y - (g.tdiv 2 + w)), .int .i64 w, .int .i64 (x + 0), .int .i64 (y + (g.tdiv 2 + w)), .int .i64 w] })) := by
  obtain ⟨q1, q2, q3, q4, q5⟩ := M.hoop_facts hx
  exact fnE (ans := [Ans.go, Ans.go, zT]) (cons := [((2 : Int) ≠ (0 : Int)), (inR IntKind.i64 (g.tdiv 2)), (inR IntKind.i64 (g.tdiv 2 + w)), (b = true), (inR IntKind.i64 (x - 0)), (inR IntKind.i64 (y - (g.tdiv 2 + w))), (inR IntKind.i64 (x + 0)), (inR IntKind.i64 (y + (g.tdiv 2 + w)))]) zk rfl rfl
    ⟨zds, inR_i64 zo zo, inR_i64 zo zo, zdf, inR_i64 zo zo, inR_i64 zo zo, inR_i64 zo zo, inR_i64 zo zo, trivial⟩
theorem lnWires_2 (x y g w : Int) (b : Bool) (hx : M.hoopB x y g w = true) (f0 : b = false) : Ret cfx 63 [.raw (.agg #[.int .i64 x, .int .i64 y, .int .i64 g, .int .i64 w, .bool b])] (V.raw (.agg { toList := [.int .i64 (x - (g.tdiv 2 + w)), .int .i64 (y - 0), .int .i64 w, .int .i64 (x + (g.tdiv 2 + w)), .int .i64 (y + 0), .int .i64 w] })) := by
  obtain ⟨q1, q2, q3, q4, q5⟩ := M.hoop_facts hx
  exact fnE (ans := [Ans.go, Ans.go, zF]) (cons := [((2 : Int) ≠ (0 : Int)), (inR IntKind.i64 (g.tdiv 2)), (inR IntKind.i64 (g.tdiv 2 + w)), (b = false), (inR IntKind.i64 (x - (g.tdiv 2 + w))), (inR IntKind.i64 (y - 0)), (inR IntKind.i64 (x + (g.tdiv 2 + w))), (inR IntKind.i64 (y + 0))]) zk rfl rfl
    ⟨zds, inR_i64 zo zo, inR_i64 zo zo, zdf, inR_i64 zo zo, inR_i64 zo zo, inR_i64 zo zo, inR_i64 zo zo, trivial⟩
theorem lnWires (x y g w : Int) (b : Bool) (hx : M.hoopB x y g w = true) : Ret cfx 63 [.raw (.agg #[.int .i64 x, .int .i64 y, .int .i64 g, .int .i64 w, .bool b])] (.raw (.agg #[.int .i64 (M.wA b x (g.tdiv 2 + w)), .int .i64 (M.wA (!b) y (g.tdiv 2 + w)), .int .i64 w, .int .i64 (M.wB b x (g.tdiv 2 + w)), .int .i64 (M.wB (!b) y (g.tdiv 2 + w)), .int .i64 w])) := by
  obtain ⟨q1, q2, q3, q4, q5⟩ := M.hoop_facts hx
  by_cases f0 : b = true
  ·
    have e : (.raw (.agg #[.int .i64 (M.wA b x (g.tdiv 2 + w)), .int .i64 (M.wA (!b) y (g.tdiv 2 + w)), .int .i64 w, .int .i64 (M.wB b x (g.tdiv 2 + w)), .int .i64 (M.wB (!b) y (g.tdiv 2 + w)), .int .i64 w]) : V) = V.raw (.agg { toList := [.int .i64 (x - 0), .int .i64 (y - (g.tdiv 2 + w)), .int .i64 w, .int .i64 (x + 0), .int .i64 (y + (g.tdiv 2 + w)), .int .i64 w] }) := by (simp_all [M.wA, M.wB])
    rw [e]
    exact lnWires_1 x y g w b hx f0
  ·
    replace f0 : b = false := by simpa using f0
    have e : (.raw (.agg #[.int .i64 (M.wA b x (g.tdiv 2 + w)), .int .i64 (M.wA (!b) y (g.tdiv 2 + w)), .int .i64 w, .int .i64 (M.wB b x (g.tdiv 2 + w)), .int .i64 (M.wB (!b) y (g.tdiv 2 + w)), .int .i64 w]) : V) = V.raw (.agg { toList := [.int .i64 (x - (g.tdiv 2 + w)), .int .i64 (y - 0), .int .i64 w, .int .i64 (x + (g.tdiv 2 + w)), .int .i64 (y + 0), .int .i64 w] }) := by (simp_all [M.wA, M.wB])
    rw [e]
    exact lnWires_2 x y g w b hx f0
def po_T (nm : ByteArray) (gs cs : List Int) (n k : Nat) (T U : Nat) (w g y a b r p q : Int) (i : Int) (ps : List Int) (m : Nat) : List V := (catV [lwA nm w g y n a b r p q k, .ptr 2 0, V.raw (Value.slice none 0 0), V.slo 4 m] (anyR 4 10 (catV [.slo 0 n, iV (n : Int), iV i] (anyR 17 18 []))))
def po_H (nm : ByteArray) (gs cs : List Int) (n k : Nat) (T U : Nat) (w g y a b r p q : Int) (i : Int) (ps : List Int) (m : Nat) : Heap := [bkG gs T, bkI cs U, bkW nm w g y n a b r p q k, none, some (.cells (ints ps) 26 (Own.row 3))]
abbrev zq47 (gs : List Int) (i : Int) : List V := [iV (M.wA (nz gs (i.toNat * 5 + 4)) (at' gs (i.toNat * 5)) ((at' gs (i.toNat * 5 + 2)).tdiv 2 + at' gs (i.toNat * 5 + 3))), iV (M.wA (!nz gs (i.toNat * 5 + 4)) (at' gs (i.toNat * 5 + 1)) ((at' gs (i.toNat * 5 + 2)).tdiv 2 + at' gs (i.toNat * 5 + 3))), iV (at' gs (i.toNat * 5 + 3)), iV (M.wB (nz gs (i.toNat * 5 + 4)) (at' gs (i.toNat * 5)) ((at' gs (i.toNat * 5 + 2)).tdiv 2 + at' gs (i.toNat * 5 + 3))), iV (M.wB (!nz gs (i.toNat * 5 + 4)) (at' gs (i.toNat * 5 + 1)) ((at' gs (i.toNat * 5 + 2)).tdiv 2 + at' gs (i.toNat * 5 + 3))), iV (at' gs (i.toNat * 5 + 3))]
theorem po_1 (nm : ByteArray) (gs cs : List Int) (n k : Nat) (T U : Nat) (w g y a b r p q : Int) (hz : n * 5 ≤ gs.length) (hn : n ≤ 20) (i : Int) (ps : List Int) (m : Nat) (hi1 : 0 ≤ i) (hp : ps.length = m * 3) (hm : m ≤ 100) (hg : i < n → M.hoopB (at' gs (i.toNat * 5)) (at' gs (i.toNat * 5 + 1)) (at' gs (i.toNat * 5 + 2)) (at' gs (i.toNat * 5 + 3)) = true) (f0 : i < (n : Int)) : Runs cfx 0 4 none (loopOf cfx.P 19 0) (po_T nm gs cs n k T U w g y a b r p q i ps m) (po_H nm gs cs n k T U w g y a b r p q i ps m) (Ex.normal) (po_T nm gs cs n k T U w g y a b r p q (i + 1) (ps ++ [M.wA (nz gs (i.toNat * 5 + 4)) (at' gs (i.toNat * 5)) ((at' gs (i.toNat * 5 + 2)).tdiv 2 + at' gs (i.toNat * 5 + 3)), M.wA (!nz gs (i.toNat * 5 + 4)) (at' gs (i.toNat * 5 + 1)) ((at' gs (i.toNat * 5 + 2)).tdiv 2 + at' gs (i.toNat * 5 + 3)), at' gs (i.toNat * 5 + 3), M.wB (nz gs (i.toNat * 5 + 4)) (at' gs (i.toNat * 5)) ((at' gs (i.toNat * 5 + 2)).tdiv 2 + at' gs (i.toNat * 5 + 3)), M.wB (!nz gs (i.toNat * 5 + 4)) (at' gs (i.toNat * 5 + 1)) ((at' gs (i.toNat * 5 + 2)).tdiv 2 + at' gs (i.toNat * 5 + 3)), at' gs (i.toNat * 5 + 3)]) (m + 1 + 1)) (po_H nm gs cs n k T U w g y a b r p q (i + 1) (ps ++ [M.wA (nz gs (i.toNat * 5 + 4)) (at' gs (i.toNat * 5)) ((at' gs (i.toNat * 5 + 2)).tdiv 2 + at' gs (i.toNat * 5 + 3)), M.wA (!nz gs (i.toNat * 5 + 4)) (at' gs (i.toNat * 5 + 1)) ((at' gs (i.toNat * 5 + 2)).tdiv 2 + at' gs (i.toNat * 5 + 3)), at' gs (i.toNat * 5 + 3), M.wB (nz gs (i.toNat * 5 + 4)) (at' gs (i.toNat * 5)) ((at' gs (i.toNat * 5 + 2)).tdiv 2 + at' gs (i.toNat * 5 + 3)), M.wB (!nz gs (i.toNat * 5 + 4)) (at' gs (i.toNat * 5 + 1)) ((at' gs (i.toNat * 5 + 2)).tdiv 2 + at' gs (i.toNat * 5 + 3)), at' gs (i.toNat * 5 + 3)]) (m + 1 + 1)) := by
  refine Runs.post (t1 := (catV [lwA nm w g y n a b r p q k, .ptr 2 0, V.raw (Value.slice none 0 0), .slo 8 (m + 1 + 1), .any 4, .ptr 5 0, .ptr 6 0] (anyR 7 7 [.slo 0 n, iV (n : Int), iV (i + 1), V.raw (.bool (decide (i < (n : Int)))), V.ptr 0 (i.toNat * 5), V.raw (.agg { toList := [.int .i64 (at' gs (i.toNat * 5)), .int .i64 (at' gs (i.toNat * 5 + 1)), .int .i64 (at' gs (i.toNat * 5 + 2)), .int .i64 (at' gs (i.toNat * 5 + 3)), .bool (nz gs (i.toNat * 5 + 4))] }), V.raw (.agg { toList := [.int .i64 (at' gs (i.toNat * 5)), .int .i64 (at' gs (i.toNat * 5 + 1)), .int .i64 (at' gs (i.toNat * 5 + 2)), .int .i64 (at' gs (i.toNat * 5 + 3)), .bool (nz gs (i.toNat * 5 + 4))] }), V.raw (.agg { toList := [.int .i64 (M.wA (nz gs (i.toNat * 5 + 4)) (at' gs (i.toNat * 5)) ((at' gs (i.toNat * 5 + 2)).tdiv 2 + at' gs (i.toNat * 5 + 3))), .int .i64 (M.wA (!nz gs (i.toNat * 5 + 4)) (at' gs (i.toNat * 5 + 1)) ((at' gs (i.toNat * 5 + 2)).tdiv 2 + at' gs (i.toNat * 5 + 3))), .int .i64 (at' gs (i.toNat * 5 + 3)), .int .i64 (M.wB (nz gs (i.toNat * 5 + 4)) (at' gs (i.toNat * 5)) ((at' gs (i.toNat * 5 + 2)).tdiv 2 + at' gs (i.toNat * 5 + 3))), .int .i64 (M.wB (!nz gs (i.toNat * 5 + 4)) (at' gs (i.toNat * 5 + 1)) ((at' gs (i.toNat * 5 + 2)).tdiv 2 + at' gs (i.toNat * 5 + 3))), .int .i64 (at' gs (i.toNat * 5 + 3))] }), .slo 4 m, .ptr 6 0, V.raw (.agg { toList := [.int .i64 (M.wA (nz gs (i.toNat * 5 + 4)) (at' gs (i.toNat * 5)) ((at' gs (i.toNat * 5 + 2)).tdiv 2 + at' gs (i.toNat * 5 + 3))), .int .i64 (M.wA (!nz gs (i.toNat * 5 + 4)) (at' gs (i.toNat * 5 + 1)) ((at' gs (i.toNat * 5 + 2)).tdiv 2 + at' gs (i.toNat * 5 + 3))), .int .i64 (at' gs (i.toNat * 5 + 3))] }), .ptr 6 3, V.raw (.agg { toList := [.int .i64 (M.wB (nz gs (i.toNat * 5 + 4)) (at' gs (i.toNat * 5)) ((at' gs (i.toNat * 5 + 2)).tdiv 2 + at' gs (i.toNat * 5 + 3))), .int .i64 (M.wB (!nz gs (i.toNat * 5 + 4)) (at' gs (i.toNat * 5 + 1)) ((at' gs (i.toNat * 5 + 2)).tdiv 2 + at' gs (i.toNat * 5 + 3))), .int .i64 (at' gs (i.toNat * 5 + 3))] }), .slo 7 2, .slo 8 (m + 1 + 1), iV (i + 1), .any 30, .any 31, .any 32, .any 33, .any 34]))) (h1 := [bkG gs T, bkI cs U, bkW nm w g y n a b r p q k, none, none, some (.cells [iV (at' gs (i.toNat * 5)), iV (at' gs (i.toNat * 5 + 1)), iV (at' gs (i.toNat * 5 + 2)), iV (at' gs (i.toNat * 5 + 3)), V.raw (.bool (nz gs (i.toNat * 5 + 4)))] 74 .rw), some (.cells (zq47 gs i) 159 .rw), some (.cells (zq47 gs i) 26 (.row 3)), some (.cells (ints (ps ++ [M.wA (nz gs (i.toNat * 5 + 4)) (at' gs (i.toNat * 5)) ((at' gs (i.toNat * 5 + 2)).tdiv 2 + at' gs (i.toNat * 5 + 3)), M.wA (!nz gs (i.toNat * 5 + 4)) (at' gs (i.toNat * 5 + 1)) ((at' gs (i.toNat * 5 + 2)).tdiv 2 + at' gs (i.toNat * 5 + 3)), at' gs (i.toNat * 5 + 3), M.wB (nz gs (i.toNat * 5 + 4)) (at' gs (i.toNat * 5)) ((at' gs (i.toNat * 5 + 2)).tdiv 2 + at' gs (i.toNat * 5 + 3)), M.wB (!nz gs (i.toNat * 5 + 4)) (at' gs (i.toNat * 5 + 1)) ((at' gs (i.toNat * 5 + 2)).tdiv 2 + at' gs (i.toNat * 5 + 3)), at' gs (i.toNat * 5 + 3)])) 26 (.row 3))]) (body_of cfx_mixed cfx_call zz (rnd := none) (fi := 0) (k := 0) (n := 40) (n0 := 4) (ans := [zT, Ans.val 0 (V.raw (.agg { toList := [.int .i64 (at' gs (i.toNat * 5)), .int .i64 (at' gs (i.toNat * 5 + 1)), .int .i64 (at' gs (i.toNat * 5 + 2)), .int .i64 (at' gs (i.toNat * 5 + 3)), .bool (nz gs (i.toNat * 5 + 4))] })), Ans.ret (V.raw (.agg { toList := [.int .i64 (M.wA (nz gs (i.toNat * 5 + 4)) (at' gs (i.toNat * 5)) ((at' gs (i.toNat * 5 + 2)).tdiv 2 + at' gs (i.toNat * 5 + 3))), .int .i64 (M.wA (!nz gs (i.toNat * 5 + 4)) (at' gs (i.toNat * 5 + 1)) ((at' gs (i.toNat * 5 + 2)).tdiv 2 + at' gs (i.toNat * 5 + 3))), .int .i64 (at' gs (i.toNat * 5 + 3)), .int .i64 (M.wB (nz gs (i.toNat * 5 + 4)) (at' gs (i.toNat * 5)) ((at' gs (i.toNat * 5 + 2)).tdiv 2 + at' gs (i.toNat * 5 + 3))), .int .i64 (M.wB (!nz gs (i.toNat * 5 + 4)) (at' gs (i.toNat * 5 + 1)) ((at' gs (i.toNat * 5 + 2)).tdiv 2 + at' gs (i.toNat * 5 + 3))), .int .i64 (at' gs (i.toNat * 5 + 3))] })), Ans.cells 8 (ints (ps ++ [M.wA (nz gs (i.toNat * 5 + 4)) (at' gs (i.toNat * 5)) ((at' gs (i.toNat * 5 + 2)).tdiv 2 + at' gs (i.toNat * 5 + 3)), M.wA (!nz gs (i.toNat * 5 + 4)) (at' gs (i.toNat * 5 + 1)) ((at' gs (i.toNat * 5 + 2)).tdiv 2 + at' gs (i.toNat * 5 + 3)), at' gs (i.toNat * 5 + 3), M.wB (nz gs (i.toNat * 5 + 4)) (at' gs (i.toNat * 5)) ((at' gs (i.toNat * 5 + 2)).tdiv 2 + at' gs (i.toNat * 5 + 3)), M.wB (!nz gs (i.toNat * 5 + 4)) (at' gs (i.toNat * 5 + 1)) ((at' gs (i.toNat * 5 + 2)).tdiv 2 + at' gs (i.toNat * 5 + 3)), at' gs (i.toNat * 5 + 3)]))]) (cons := [(decide (i < (n : Int)) = true), (0 ≤ i ∧ i < (n : Int)), (loadRow cfx 74 (mix [false, false, false, false, true] gs) (i.toNat * 5) = some (V.raw (.agg { toList := [.int .i64 (at' gs (i.toNat * 5)), .int .i64 (at' gs (i.toNat * 5 + 1)), .int .i64 (at' gs (i.toNat * 5 + 2)), .int .i64 (at' gs (i.toNat * 5 + 3)), .bool (nz gs (i.toNat * 5 + 4))] }))), (Ret cfx 63 [V.raw (.agg { toList := [.int .i64 (at' gs (i.toNat * 5)), .int .i64 (at' gs (i.toNat * 5 + 1)), .int .i64 (at' gs (i.toNat * 5 + 2)), .int .i64 (at' gs (i.toNat * 5 + 3)), .bool (nz gs (i.toNat * 5 + 4))] })] (V.raw (.agg { toList := [.int .i64 (M.wA (nz gs (i.toNat * 5 + 4)) (at' gs (i.toNat * 5)) ((at' gs (i.toNat * 5 + 2)).tdiv 2 + at' gs (i.toNat * 5 + 3))), .int .i64 (M.wA (!nz gs (i.toNat * 5 + 4)) (at' gs (i.toNat * 5 + 1)) ((at' gs (i.toNat * 5 + 2)).tdiv 2 + at' gs (i.toNat * 5 + 3))), .int .i64 (at' gs (i.toNat * 5 + 3)), .int .i64 (M.wB (nz gs (i.toNat * 5 + 4)) (at' gs (i.toNat * 5)) ((at' gs (i.toNat * 5 + 2)).tdiv 2 + at' gs (i.toNat * 5 + 3))), .int .i64 (M.wB (!nz gs (i.toNat * 5 + 4)) (at' gs (i.toNat * 5 + 1)) ((at' gs (i.toNat * 5 + 2)).tdiv 2 + at' gs (i.toNat * 5 + 3))), .int .i64 (at' gs (i.toNat * 5 + 3))] }))), (2 ≤ 9223372036854775807), (2 * 3 ≤ List.length ((zq47 gs i) : List V)), (oneCells (List.take (2 * 3) ((zq47 gs i) : List V)) = true), (List.length ((ints ps) : List V) = m * 3), (m + 2 ≤ maxLen ∧ (m + 2) * 24 ≤ 140737488355328), (((ints ps) : List V) ++ (List.take (2 * 3) ((zq47 gs i) : List V)) = (ints (ps ++ [M.wA (nz gs (i.toNat * 5 + 4)) (at' gs (i.toNat * 5)) ((at' gs (i.toNat * 5 + 2)).tdiv 2 + at' gs (i.toNat * 5 + 3)), M.wA (!nz gs (i.toNat * 5 + 4)) (at' gs (i.toNat * 5 + 1)) ((at' gs (i.toNat * 5 + 2)).tdiv 2 + at' gs (i.toNat * 5 + 3)), at' gs (i.toNat * 5 + 3), M.wB (nz gs (i.toNat * 5 + 4)) (at' gs (i.toNat * 5)) ((at' gs (i.toNat * 5 + 2)).tdiv 2 + at' gs (i.toNat * 5 + 3)), M.wB (!nz gs (i.toNat * 5 + 4)) (at' gs (i.toNat * 5 + 1)) ((at' gs (i.toNat * 5 + 2)).tdiv 2 + at' gs (i.toNat * 5 + 3)), at' gs (i.toNat * 5 + 3)]))), (inR IntKind.i64 (i + 1))]) zk
    ⟨zdo, (by omega), (load_mix 5 0 (by kernel_rfl) (by kernel_rfl) (Nat.le_of_ble_eq_true rfl) (by show _ % 5 = 0; omega) (Nat.le_of_ble_eq_true rfl) (by omega)), (lnWires _ _ _ _ _ (hg (by omega))), zds, zdl, (by first | exact ones_take _ _ | rfl), zdl, (by unfold maxLen; constructor <;> omega), (by first | rfl | exact app_lit _ _ rfl | exact app_row _ _ _ | exact row_row0 _ _ | exact app_row0 _ _), inR_i64 (by omega) (by omega), trivial⟩ (Nat.le_of_ble_eq_true rfl) (Nat.le_of_ble_eq_true rfl) noRnd (noRanges (by kernel_rfl))) (fun RT RH => reshape2 (lim := 0) 4 cfx_G rfl [some 8] (by kernel_rfl) (by kernel_rfl) (by exact (ents_raw (mix_all _ _) rfl rfl (ents_raw (ints_all _) rfl rfl (ents_say rfl rfl rfl rfl (ents_none (ents_raw (ints_all _) rfl rfl (ents_nil))))))) RT RH)
def po_T2 (nm : ByteArray) (gs cs : List Int) (n k : Nat) (T U : Nat) (w g y a b r p q : Int) (i : Int) (ps : List Int) (m : Nat) : List V := (catV [lwA nm w g y n a b r p q k, .ptr 2 0, V.raw (Value.slice none 0 0), .slo 4 m] (anyR 4 10 (catV [.slo 0 n, iV (n : Int), iV i] (anyR 17 18 []))))
def po_H2 (nm : ByteArray) (gs cs : List Int) (n k : Nat) (T U : Nat) (w g y a b r p q : Int) (i : Int) (ps : List Int) (m : Nat) : Heap := [bkG gs T, bkI cs U, bkW nm w g y n a b r p q k, none, some (.cells (ints ps) 26 (.row 3))]
theorem po_2 (nm : ByteArray) (gs cs : List Int) (n k : Nat) (T U : Nat) (w g y a b r p q : Int) (hz : n * 5 ≤ gs.length) (hn : n ≤ 20) (i : Int) (ps : List Int) (m : Nat) (hi1 : 0 ≤ i) (hp : ps.length = m * 3) (hm : m ≤ 100) (hg : i < n → M.hoopB (at' gs (i.toNat * 5)) (at' gs (i.toNat * 5 + 1)) (at' gs (i.toNat * 5 + 2)) (at' gs (i.toNat * 5 + 3)) = true) (f0 : ¬i < (n : Int)) : Runs cfx 0 4 none (loopOf cfx.P 19 0) (po_T nm gs cs n k T U w g y a b r p q i ps m) (po_H nm gs cs n k T U w g y a b r p q i ps m) (Ex.exit 0) (po_T2 nm gs cs n k T U w g y a b r p q i ps m) (po_H2 nm gs cs n k T U w g y a b r p q i ps m) := by
  refine Runs.post (t1 := (catV [lwA nm w g y n a b r p q k, .ptr 2 0, V.raw (Value.slice none 0 0), .slo 4 m] (anyR 4 10 (catV [.slo 0 n, iV (n : Int), iV i, V.raw (.bool (decide (i < (n : Int))))] (anyR 18 17 []))))) (h1 := [bkG gs T, bkI cs U, bkW nm w g y n a b r p q k, none, some (.cells (ints ps) 26 (.row 3))]) (body_of cfx_mixed cfx_call zz (rnd := none) (fi := 0) (k := 0) (n := 40) (n0 := 4) (ans := [zF]) (cons := [(decide (i < (n : Int)) = false)]) zk
    ⟨zdo, trivial⟩ zb zb noRnd (noRanges zk)) (fun RT RH => reshape2 (lim := 0) 4 cfx_G rfl [some 4] zk zk (by exact (ents_raw (mix_all _ _) rfl rfl (ents_raw (ints_all _) rfl rfl (ents_say rfl rfl rfl rfl (ents_none (ents_raw (ints_all _) rfl rfl (ents_nil))))))) RT RH)
def M.hoopsB (gs : List Int) (n : Nat) : Bool := (List.range n).all (M.hoopZ gs)
theorem hf_loop (gs : List Int) (n : Nat) (T : Nat) (hz : n * 5 ≤ gs.length) (hn : n ≤ 20) : (M.hoopsB gs n = true ∧ Runs cfx 0 1 none (.loop (loopOf cfx.P 60 0)) (hf_T gs n T 0) (hf_H gs n T 0) (.exit 0) (hf_T7 gs n T n) (hf_H7 gs n T n)) ∨ (M.hoopsB gs n = false ∧ ∃ i : Nat, Runs cfx 0 1 none (.loop (loopOf cfx.P 60 0)) (hf_T gs n T 0) (hf_H gs n T 0) (.ret) (hf_T1 gs n T i) (hf_H1 gs n T i)) := by
  rcases upto_find (c := cfx) (lim := 0) (n0 := 1) (x := loopOf cfx.P 60 0) noRnd (M.hoopZ gs) (fun i : Nat => hf_T gs n T i) (fun i : Nat => hf_H gs n T i) n (fun i : Nat => hf_T1 gs n T i) (fun i : Nat => hf_H1 gs n T i) (e := .exit 0) (e1 := .ret) (by simp) (by simp)
    (fun i hi hg => by
      simp only [M.hoopZ, M.hoopB, Bool.and_eq_true, decide_eq_true_eq] at hg
      obtain ⟨⟨⟨⟨q1, q2⟩, q3⟩, q4⟩, q5⟩ := hg
      exact hf_6 gs n T hz hn i zo zo q1 q2 q3 q4 q5)
    (fun i hi hg => by
      cases q1 : M.btw (at' gs (i * 5)) 0 4194304 with
      | false => exact hf_1 gs n T hz hn i zo zo q1
      | true =>
      cases q2 : M.btw (at' gs (i * 5 + 1)) 0 4194304 with
      | false => exact hf_2 gs n T hz hn i zo zo q1 q2
      | true =>
      cases q3 : M.btw (at' gs (i * 5 + 2)) 2 32768 with
      | false => exact hf_3 gs n T hz hn i zo zo q1 q2 q3
      | true =>
      by_cases q4 : (at' gs (i * 5 + 2)).tmod 2 = 0
      · cases q5 : M.btw (at' gs (i * 5 + 3)) 1 8192 with
        | false => exact hf_5 gs n T hz hn i zo zo q1 q2 q3 q4 q5
        | true => simp [M.hoopZ, M.hoopB, q1, q2, q3, q4, q5] at hg
      · exact hf_4 gs n T hz hn i zo zo q1 q2 q3 q4)
    (hf_7 gs n T hz hn n zo zo) with ⟨h1, h2⟩ | ⟨h1, i, hi, h2, h3, h4⟩
  · exact .inl ⟨h1, h2⟩
  · exact .inr ⟨h1, i, h4⟩
abbrev zq60 (n : Nat) : List V := (catV [.slo 0 n, uV, V.raw (.bool false), uV, .any 4, .slo 0 n, iV (n : Int), iV (n : Int)] (anyR 8 32 []))
abbrev zq87 (n : Nat) : List V := (catV [.slo 0 n, uV, V.raw (.bool false), uV, uV, .slo 0 n, iV (n : Int), iV 0] (repU 32 []))
theorem hoopsFit_ok (gs : List Int) (n : Nat) (T : Nat) (hz : n * 5 ≤ gs.length) (hn : n ≤ 20) (hR : Runs cfx 0 1 none (.loop (loopOf cfx.P 60 0)) (hf_T gs n T 0) (hf_H gs n T 0) (.exit 0) (hf_T7 gs n T n) (hf_H7 gs n T n))  : Meets cfx 0 60 [.slo 0 n] [bkG gs T] (V.raw (.bool true)) [bkG gs T] := by
  refine Meets.post (mev (ans := [Ans.go, Ans.loop (Ex.exit 0) (zq60 n) [bkG gs T]]) (v := V.raw (.bool true)) (h' := [bkG gs T]) (cons := [(Runs cfx 0 1 none (.loop (loopOf cfx.P 60 0)) (zq87 n) [bkG gs T] (Ex.exit 0) (zq60 n) [bkG gs T])]) zk
    ⟨(by
      refine Runs.pre (fun b e => by cases e) (fun RT RH => ?_) (hR)
      exact reshape2 (lim := 0) 1 (t := (zq87 n)) (h := [bkG gs T]) cfx_G rfl [] zk zk zdr RT RH), trivial⟩) zk zt7
abbrev zq61 (n : Nat) (i : Nat) : List V := (catV [.slo 0 n, uV, V.raw (.bool false), uV, .any 4, .slo 0 n, iV (n : Int), iV (i : Int)] (anyR 8 32 []))
theorem hoopsFit_bad (gs : List Int) (n : Nat) (T : Nat) (hz : n * 5 ≤ gs.length) (hn : n ≤ 20) (i : Nat) (hR : Runs cfx 0 1 none (.loop (loopOf cfx.P 60 0)) (hf_T gs n T 0) (hf_H gs n T 0) (.ret) (hf_T1 gs n T i) (hf_H1 gs n T i))  : Meets cfx 0 60 [.slo 0 n] [bkG gs T] (V.raw (.bool false)) [bkG gs T] := by
  refine Meets.post (mev (ans := [Ans.go, Ans.loop Ex.ret (zq61 n i) [bkG gs T]]) (v := V.raw (.bool false)) (h' := [bkG gs T]) (cons := [(Runs cfx 0 1 none (.loop (loopOf cfx.P 60 0)) (zq87 n) [bkG gs T] (Ex.ret) (zq61 n i) [bkG gs T])]) zk
    ⟨(by
      refine Runs.pre (fun b e => by cases e) (fun RT RH => ?_) (hR)
      exact reshape2 (lim := 0) 1 (t := (zq87 n)) (h := [bkG gs T]) cfx_G rfl [] zk zk zdr RT RH), trivial⟩) zk zt7
theorem hoopsFit_all (gs : List Int) (n : Nat) (T : Nat) (hz : n * 5 ≤ gs.length) (hn : n ≤ 20) : Meets cfx 0 60 [.slo 0 n] [bkG gs T] (.raw (.bool (M.hoopsB gs n))) [bkG gs T] := by
  rcases hf_loop gs n T hz hn with ⟨h1, h2⟩ | ⟨h1, i, h2⟩
  · rw [h1]; exact hoopsFit_ok gs n T hz hn h2
  · rw [h1]; exact hoopsFit_bad gs n T hz hn i h2
theorem M.postF_at (gs : List Int) (i j : Nat) (h : j < 6) : M.postF gs (i * 6 + j) = if j = 0 then M.wA (nz gs (i * 5 + 4)) (at' gs (i * 5)) (M.hoopD gs i) else if j = 1 then M.wA (!nz gs (i * 5 + 4)) (at' gs (i * 5 + 1)) (M.hoopD gs i) else if j = 3 then M.wB (nz gs (i * 5 + 4)) (at' gs (i * 5)) (M.hoopD gs i) else if j = 4 then M.wB (!nz gs (i * 5 + 4)) (at' gs (i * 5 + 1)) (M.hoopD gs i) else at' gs (i * 5 + 3) := by
  unfold M.postF
  rw [show (i * 6 + j) % 6 = j by omega, show (i * 6 + j) / 6 = i by omega]
theorem tab_app6 (f : Nat → Int) (n : Nat) {x0 x1 x2 x3 x4 x5 : Int} (h0 : f n = x0) (h1 : f (n + 1) = x1) (h2 : f (n + 2) = x2) (h3 : f (n + 3) = x3) (h4 : f (n + 4) = x4) (h5 : f (n + 5) = x5) : tab n f ++ [x0, x1, x2, x3, x4, x5] = tab (n + 6) f := by
  subst h0 h1 h2 h3 h4 h5
  unfold tab
  rw [List.range_add, List.map_append, List.map_map]
  rfl
theorem M.posts_app (gs : List Int) (i : Nat) : tab (i * 6) (M.postF gs) ++ [M.wA (nz gs (i * 5 + 4)) (at' gs (i * 5)) (M.hoopD gs i), M.wA (!nz gs (i * 5 + 4)) (at' gs (i * 5 + 1)) (M.hoopD gs i), at' gs (i * 5 + 3), M.wB (nz gs (i * 5 + 4)) (at' gs (i * 5)) (M.hoopD gs i), M.wB (!nz gs (i * 5 + 4)) (at' gs (i * 5 + 1)) (M.hoopD gs i), at' gs (i * 5 + 3)] = tab ((i + 1) * 6) (M.postF gs) := by
  rw [show (i + 1) * 6 = i * 6 + 6 by omega]
  exact tab_app6 _ _ (M.postF_at gs i 0 zo) (M.postF_at gs i 1 zo) (M.postF_at gs i 2 zo) (M.postF_at gs i 3 zo) (M.postF_at gs i 4 zo) (M.postF_at gs i 5 zo)
theorem po_loop (hz : n * 5 ≤ gs.length) (hn : n ≤ 20) (hg : M.hoopsB gs n = true) : Runs cfx 0 4 none (.loop (loopOf cfx.P 19 0)) (po_T nm gs cs n k T U w g y a b r p q 0 [] 0) (po_H nm gs cs n k T U w g y a b r p q 0 [] 0) (.exit 0) (po_T2 nm gs cs n k T U w g y a b r p q n (tab (n * 6) (M.postF gs)) (2 * n)) (po_H2 nm gs cs n k T U w g y a b r p q n (tab (n * 6) (M.postF gs)) (2 * n)) :=
  upto (c := cfx) (lim := 0) (n0 := 4) (x := loopOf cfx.P 19 0) noRnd (fun i : Nat => po_T nm gs cs n k T U w g y a b r p q i (tab (i * 6) (M.postF gs)) (2 * i)) (fun i : Nat => po_H nm gs cs n k T U w g y a b r p q i (tab (i * 6) (M.postF gs)) (2 * i)) n (e := .exit 0) (by simp)
    (fun i hi => by
      have := po_1 nm gs cs n k T U w g y a b r p q hz hn i (tab (i * 6) (M.postF gs)) (2 * i) (by omega) (by rw [tab_len]; omega) (by omega) (fun _ => all_range hg i hi) (by omega)
      simp only [Int.toNat_natCast] at this
      rw [show (at' gs (i * 5 + 2)).tdiv 2 + at' gs (i * 5 + 3) = M.hoopD gs i from rfl, M.posts_app] at this
      exact this)
    (po_2 nm gs cs n k T U w g y a b r p q hz hn n (tab (n * 6) (M.postF gs)) (2 * n) (by omega) (by rw [tab_len]; omega) (by omega) (fun h => by omega) (by omega))
abbrev zq62 (nm : ByteArray) (w : Int) (g : Int) (y : Int) (n : Nat) (a : Int) (b : Int) (r : Int) (p : Int) (q : Int) (k : Nat) : List V := (catV [lwA nm w g y n a b r p q k, .ptr 2 0, V.raw (Value.slice none 0 0), .slo 4 (2 * n)] (anyR 4 10 (catV [.slo 0 n, iV (n : Int), iV (n : Int)] (anyR 17 18 []))))
theorem posts_ok (hz : n * 5 ≤ gs.length) (hn : n ≤ 20) (hR : Runs cfx 0 4 none (.loop (loopOf cfx.P 19 0)) (po_T nm gs cs n k T U w g y a b r p q 0 [] 0) (po_H nm gs cs n k T U w g y a b r p q 0 [] 0) (.exit 0) (po_T2 nm gs cs n k T U w g y a b r p q n (tab (n * 6) (M.postF gs)) (2 * n)) (po_H2 nm gs cs n k T U w g y a b r p q n (tab (n * 6) (M.postF gs)) (2 * n)))  : Meets cfx 0 19 [lwA nm w g y n a b r p q k] [bkG gs T, bkI cs U] (.slo 2 (2 * n + 1)) [bkG gs T, bkI cs U, some (.cells (ints (tab (n * 6) (M.postF gs) ++ [a, b, r])) 26 (.row 3))] := by
  refine Meets.post (mev (ans := [Ans.go, Ans.loop (Ex.exit 0) (zq62 nm w g y n a b r p q k) [bkG gs T, bkI cs U, bkW nm w g y n a b r p q k, none, some (.cells (ints (tab (n * 6) (M.postF gs))) 26 (.row 3))], Ans.cells 6 (ints (tab (n * 6) (M.postF gs) ++ [a, b, r]))]) (v := .slo 6 (2 * n + 1)) (h' := [bkG gs T, bkI cs U, bkW nm w g y n a b r p q k, none, none, some (.cells [iV a, iV b, iV r] 26 (.row 3)), some (.cells (ints (tab (n * 6) (M.postF gs) ++ [a, b, r])) 26 (.row 3))]) (cons := [(inR IntKind.i64 ((2 * n) : Int)), (inR IntKind.i64 ((2 * n + 1) : Int)), ((0 : Int) ≤ (0 : Int) ∧ 0 ≤ ((2 * n + 1) : Int) ∧ ((24 * (2 * n + 1)) : Int) ≤ 281474976710656 ∧ ((2 * n + 1) : Int) ≤ 9223372036854775807), (Runs cfx 0 4 none (.loop (loopOf cfx.P 19 0)) (catV [lwA nm w g y n a b r p q k, .ptr 2 0, V.raw (Value.slice none 0 0), .slo 3 0, uV, uV, uV, .ptr 2 4, .slo 0 n, iV (n : Int), iV ((2 * n) : Int), iV ((2 * n + 1) : Int), .slo 3 0, .ptr 2 4, .slo 0 n, iV (n : Int), iV 0] (repU 18 [])) [bkG gs T, bkI cs U, bkW nm w g y n a b r p q k, some (.cells [] 26 (.row 3))] (Ex.exit 0) (zq62 nm w g y n a b r p q k) [bkG gs T, bkI cs U, bkW nm w g y n a b r p q k, none, some (.cells (ints (tab (n * 6) (M.postF gs))) 26 (.row 3))]), (1 ≤ 9223372036854775807), (1 * 3 ≤ List.length ([iV a, iV b, iV r] : List V)), (oneCells (List.take (1 * 3) ([iV a, iV b, iV r] : List V)) = true), (List.length ((ints (tab (n * 6) (M.postF gs))) : List V) = (2 * n) * 3), ((2 * n) + 1 ≤ maxLen ∧ ((2 * n) + 1) * 24 ≤ 140737488355328), (((ints (tab (n * 6) (M.postF gs))) : List V) ++ (List.take (1 * 3) ([iV a, iV b, iV r] : List V)) = (ints (tab (n * 6) (M.postF gs) ++ [a, b, r])))]) zk
    ⟨inR_i64 zo zo, inR_i64 zo zo, zds, (by
      refine Runs.pre (fun b e => by cases e) (fun RT RH => ?_) (hR)
      exact reshape2 (lim := 0) 4 (t := (catV [lwA nm w g y n a b r p q k, .ptr 2 0, V.raw (Value.slice none 0 0), .slo 3 0, uV, uV, uV, .ptr 2 4, .slo 0 n, iV (n : Int), iV ((2 * n) : Int), iV ((2 * n + 1) : Int), .slo 3 0, .ptr 2 4, .slo 0 n, iV (n : Int), iV 0] (repU 18 []))) (h := [bkG gs T, bkI cs U, bkW nm w g y n a b r p q k, some (.cells [] 26 (.row 3))]) cfx_G rfl [some 3] (by kernel_rfl) (by kernel_rfl) zdr RT RH), zds, (by first | omega | (simp only [ints_len, putI_length, List.length_append, List.length_replicate, List.length_take, List.length_drop, List.length_cons, List.length_nil, tab_len]; omega) | (simp only [ints_len, putI_length, List.length_append, List.length_replicate, List.length_take, List.length_drop, List.length_cons, List.length_nil, tab_len]; done)), (by first | exact ones_take _ _ | rfl), (by first | omega | (simp only [ints_len, putI_length, List.length_append, List.length_replicate, List.length_take, List.length_drop, List.length_cons, List.length_nil, tab_len]; omega) | (simp only [ints_len, putI_length, List.length_append, List.length_replicate, List.length_take, List.length_drop, List.length_cons, List.length_nil, tab_len]; done)), (by unfold maxLen; constructor <;> omega), (by first | rfl | exact app_lit _ _ rfl | exact app_row _ _ _ | exact row_row0 _ _ | exact app_row0 _ _), trivial⟩) (by kernel_rfl) (fun RT RH => reshape2 (lim := 0) 2 cfx_G rfl [some 6] (by kernel_rfl) (by kernel_rfl) (by exact (ents_raw (mix_all _ _) rfl rfl (ents_raw (ints_all _) rfl rfl (ents_raw (ints_all _) rfl rfl (ents_nil))))) RT RH)
abbrev zq42 (nm : ByteArray) (w : Int) (g : Int) (y : Int) (n : Nat) (a : Int) (b : Int) (r : Int) (p : Int) (q : Int) (k : Nat) (m : Nat) (i : Int) : List V := (catV [lwA nm w g y n a b r p q k, .ptr 2 0, V.raw (.bool false), .slo 3 m] (anyR 4 13 (catV [.slo 3 m, iV (m : Int), iV i] (anyR 20 50 []))))
def pf_T (nm : ByteArray) (gs cs zs : List Int) (n k m : Nat) (T U : Nat) (w g y a b r p q : Int) (i : Int) : List V := (zq42 nm w g y n a b r p q k m i)
abbrev zq108 (gs : List Int) (T : Nat) (cs : List Int) (U : Nat) (nm : ByteArray) (w : Int) (g : Int) (y : Int) (n : Nat) (a : Int) (b : Int) (r : Int) (p : Int) (q : Int) (k : Nat) (zs : List Int) : Heap := [bkG gs T, bkI cs U, bkW nm w g y n a b r p q k, some (.cells (ints zs) 26 (.row 3))]
def pf_H (nm : ByteArray) (gs cs zs : List Int) (n k m : Nat) (T U : Nat) (w g y a b r p q : Int) (i : Int) : Heap := (zq108 gs T cs U nm w g y n a b r p q k zs)
def pf_T1 (nm : ByteArray) (gs cs zs : List Int) (n k m : Nat) (T U : Nat) (w g y a b r p q : Int) (i : Int) : List V := (zq42 nm w g y n a b r p q k m i)
def pf_H1 (nm : ByteArray) (gs cs zs : List Int) (n k m : Nat) (T U : Nat) (w g y a b r p q : Int) (i : Int) : Heap := (zq108 gs T cs U nm w g y n a b r p q k zs)
abbrev zq79 (gs : List Int) (T : Nat) (cs : List Int) (U : Nat) (nm : ByteArray) (w : Int) (g : Int) (y : Int) (n : Nat) (a : Int) (b : Int) (r : Int) (p : Int) (q : Int) (k : Nat) (zs : List Int) (i : Int) : Heap := [bkG gs T, bkI cs U, bkW nm w g y n a b r p q k, some (.cells (ints zs) 26 (.row 3)), some (.cells [iV (at' zs (i.toNat * 3)), iV (at' zs (i.toNat * 3 + 1)), iV (at' zs (i.toNat * 3 + 2))] 26 .rw)]
abbrev zq82 (zs : List Int) (i : Int) (w : Int) : Prop := Ret cfx 32 [iV (at' zs (i.toNat * 3)), iV (at' zs (i.toNat * 3 + 2)), iV (w - at' zs (i.toNat * 3 + 2))] (V.raw (.bool (M.btw (at' zs (i.toNat * 3)) (at' zs (i.toNat * 3 + 2)) (w - at' zs (i.toNat * 3 + 2)))))
abbrev zq99 (nm : ByteArray) (w : Int) (g : Int) (y : Int) (n : Nat) (a : Int) (b : Int) (r : Int) (p : Int) (q : Int) (k : Nat) (gs : List Int) (T : Nat) (cs : List Int) (U : Nat) (m : Nat) (zs : List Int) : Prop := Meets cfx 0 19 [lwA nm w g y n a b r p q k] [bkG gs T, bkI cs U] (.slo 2 m) ([bkG gs T, bkI cs U, some (.cells (ints zs) 26 (.row 3))])
theorem pf_1 (nm : ByteArray) (gs cs zs : List Int) (n k m : Nat) (T U : Nat) (w g y a b r p q : Int) (hpo : (zq99 nm w g y n a b r p q k gs T cs U m zs)) (hr : M.btw r 1 8192 = true) (hz : zs.length = m * 3) (hm : m ≤ 100) (hw : -4194304 ≤ w ∧ w ≤ 4194304) (hg : -4194304 ≤ g ∧ g ≤ 4194304) (i : Int) (hi1 : 0 ≤ i) (hq : i < m → (-10000000 ≤ at' zs (i.toNat * 3 + 2) ∧ at' zs (i.toNat * 3 + 2) ≤ 10000000)) (f0 : i < (m : Int)) (f1 : M.btw (at' zs (i.toNat * 3)) (at' zs (i.toNat * 3 + 2)) (w - at' zs (i.toNat * 3 + 2)) = false) : Runs cfx 0 4 none (loopOf cfx.P 62 0) (pf_T nm gs cs zs n k m T U w g y a b r p q i) (pf_H nm gs cs zs n k m T U w g y a b r p q i) (Ex.ret) (pf_T1 nm gs cs zs n k m T U w g y a b r p q i) (pf_H1 nm gs cs zs n k m T U w g y a b r p q i) := by
  refine Runs.post (t1 := (catV [lwA nm w g y n a b r p q k, .ptr 2 0, V.raw (.bool false), .slo 3 m, .any 4, .ptr 4 0] (anyR 6 11 (catV (catV [.slo 3 m, iV (m : Int), iV i, V.raw (.bool (decide (i < (m : Int)))), V.ptr 3 (i.toNat * 3), (rowV zs (i.toNat * 3) 3), .ptr 4 0, .ptr 4 0, iV (at' zs (i.toNat * 3)), .ptr 4 2, iV (at' zs (i.toNat * 3 + 2)), .ptr 2 1, iV w, .ptr 4 2, iV (at' zs (i.toNat * 3 + 2)), iV (w - at' zs (i.toNat * 3 + 2)), V.raw (.bool (M.btw (at' zs (i.toNat * 3)) (at' zs (i.toNat * 3 + 2)) (w - at' zs (i.toNat * 3 + 2)))), V.raw (.bool !M.btw (at' zs (i.toNat * 3)) (at' zs (i.toNat * 3 + 2)) (w - at' zs (i.toNat * 3 + 2))), V.lit true] (repU 12 [V.raw (.bool true)])) (anyR 49 21 []))))) (h1 := (zq79 gs T cs U nm w g y n a b r p q k zs i)) (body_of cfx_mixed cfx_call zz (rnd := none) (fi := 0) (k := 0) (n := 40) (n0 := 4) (ans := [zT, Ans.val 3 ((rowV zs (i.toNat * 3) 3)), Ans.ret (V.raw (.bool (M.btw (at' zs (i.toNat * 3)) (at' zs (i.toNat * 3 + 2)) (w - at' zs (i.toNat * 3 + 2))))), zT, zT, zT]) (cons := [(decide (i < (m : Int)) = true), (0 ≤ i ∧ i < (m : Int)), (loadRow cfx 26 (ints zs) (i.toNat * 3) = some ((rowV zs (i.toNat * 3) 3))), (inR IntKind.i64 (w - at' zs (i.toNat * 3 + 2))), ((zq82 zs i w)), ((!M.btw (at' zs (i.toNat * 3)) (at' zs (i.toNat * 3 + 2)) (w - at' zs (i.toNat * 3 + 2))) = true), zY, zY]) zk
    ⟨zdo, zo, (load_agg 3 zk zk zb zo), inR_i64 zo zo, (lnBetween _ _ _), zdf, rfl, rfl, trivial⟩ zb zb noRnd (noRanges zk)) zt2
def pf_T2 (nm : ByteArray) (gs cs zs : List Int) (n k m : Nat) (T U : Nat) (w g y a b r p q : Int) (i : Int) : List V := (zq42 nm w g y n a b r p q k m i)
def pf_H2 (nm : ByteArray) (gs cs zs : List Int) (n k m : Nat) (T U : Nat) (w g y a b r p q : Int) (i : Int) : Heap := (zq108 gs T cs U nm w g y n a b r p q k zs)
abbrev zq81 (zs : List Int) (i : Int) (g : Int) : Prop := Ret cfx 32 [iV (at' zs (i.toNat * 3 + 1)), iV (at' zs (i.toNat * 3 + 2)), iV (g - at' zs (i.toNat * 3 + 2))] (V.raw (.bool (M.btw (at' zs (i.toNat * 3 + 1)) (at' zs (i.toNat * 3 + 2)) (g - at' zs (i.toNat * 3 + 2)))))
theorem pf_2 (nm : ByteArray) (gs cs zs : List Int) (n k m : Nat) (T U : Nat) (w g y a b r p q : Int) (hpo : (zq99 nm w g y n a b r p q k gs T cs U m zs)) (hr : M.btw r 1 8192 = true) (hz : zs.length = m * 3) (hm : m ≤ 100) (hw : -4194304 ≤ w ∧ w ≤ 4194304) (hg : -4194304 ≤ g ∧ g ≤ 4194304) (i : Int) (hi1 : 0 ≤ i) (hq : i < m → (-10000000 ≤ at' zs (i.toNat * 3 + 2) ∧ at' zs (i.toNat * 3 + 2) ≤ 10000000)) (f0 : i < (m : Int)) (f1 : M.btw (at' zs (i.toNat * 3)) (at' zs (i.toNat * 3 + 2)) (w - at' zs (i.toNat * 3 + 2)) = true) (f2 : M.btw (at' zs (i.toNat * 3 + 1)) (at' zs (i.toNat * 3 + 2)) (g - at' zs (i.toNat * 3 + 2)) = false) : Runs cfx 0 4 none (loopOf cfx.P 62 0) (pf_T nm gs cs zs n k m T U w g y a b r p q i) (pf_H nm gs cs zs n k m T U w g y a b r p q i) (Ex.ret) (pf_T2 nm gs cs zs n k m T U w g y a b r p q i) (pf_H2 nm gs cs zs n k m T U w g y a b r p q i) := by
  refine Runs.post (t1 := (catV [lwA nm w g y n a b r p q k, .ptr 2 0, V.raw (.bool false), .slo 3 m, .any 4, .ptr 4 0] (anyR 6 11 (catV [.slo 3 m, iV (m : Int), iV i, V.raw (.bool (decide (i < (m : Int)))), V.ptr 3 (i.toNat * 3), (rowV zs (i.toNat * 3) 3), .ptr 4 0, .ptr 4 0, iV (at' zs (i.toNat * 3)), .ptr 4 2, iV (at' zs (i.toNat * 3 + 2)), .ptr 2 1, iV w, .ptr 4 2, iV (at' zs (i.toNat * 3 + 2)), iV (w - at' zs (i.toNat * 3 + 2)), V.raw (.bool (M.btw (at' zs (i.toNat * 3)) (at' zs (i.toNat * 3 + 2)) (w - at' zs (i.toNat * 3 + 2)))), V.raw (.bool !M.btw (at' zs (i.toNat * 3)) (at' zs (i.toNat * 3 + 2)) (w - at' zs (i.toNat * 3 + 2))), V.lit false, .ptr 4 0, .ptr 4 1, iV (at' zs (i.toNat * 3 + 1)), .ptr 4 2, iV (at' zs (i.toNat * 3 + 2)), .ptr 2 2, iV g, .ptr 4 2, iV (at' zs (i.toNat * 3 + 2)), iV (g - at' zs (i.toNat * 3 + 2)), V.raw (.bool (M.btw (at' zs (i.toNat * 3 + 1)) (at' zs (i.toNat * 3 + 2)) (g - at' zs (i.toNat * 3 + 2)))), V.raw (.bool !M.btw (at' zs (i.toNat * 3 + 1)) (at' zs (i.toNat * 3 + 2)) (g - at' zs (i.toNat * 3 + 2))), V.raw (.bool !M.btw (at' zs (i.toNat * 3 + 1)) (at' zs (i.toNat * 3 + 2)) (g - at' zs (i.toNat * 3 + 2)))] (anyR 49 21 []))))) (h1 := (zq79 gs T cs U nm w g y n a b r p q k zs i)) (body_of cfx_mixed cfx_call zz (rnd := none) (fi := 0) (k := 0) (n := 40) (n0 := 4) (ans := [zT, Ans.val 3 ((rowV zs (i.toNat * 3) 3)), Ans.ret (V.raw (.bool (M.btw (at' zs (i.toNat * 3)) (at' zs (i.toNat * 3 + 2)) (w - at' zs (i.toNat * 3 + 2))))), zF, Ans.ret (V.raw (.bool (M.btw (at' zs (i.toNat * 3 + 1)) (at' zs (i.toNat * 3 + 2)) (g - at' zs (i.toNat * 3 + 2))))), zF, zT]) (cons := [(decide (i < (m : Int)) = true), (0 ≤ i ∧ i < (m : Int)), (loadRow cfx 26 (ints zs) (i.toNat * 3) = some ((rowV zs (i.toNat * 3) 3))), (inR IntKind.i64 (w - at' zs (i.toNat * 3 + 2))), ((zq82 zs i w)), ((!M.btw (at' zs (i.toNat * 3)) (at' zs (i.toNat * 3 + 2)) (w - at' zs (i.toNat * 3 + 2))) = false), (inR IntKind.i64 (g - at' zs (i.toNat * 3 + 2))), ((zq81 zs i g)), zN, ((!M.btw (at' zs (i.toNat * 3 + 1)) (at' zs (i.toNat * 3 + 2)) (g - at' zs (i.toNat * 3 + 2))) = true)]) zk
    ⟨zdo, zo, (load_agg 3 zk zk zb zo), inR_i64 zo zo, (lnBetween _ _ _), zdf, inR_i64 zo zo, (lnBetween _ _ _), rfl, zdf, trivial⟩ zb zb noRnd (noRanges zk)) zt2
theorem pf_3 (nm : ByteArray) (gs cs zs : List Int) (n k m : Nat) (T U : Nat) (w g y a b r p q : Int) (hpo : (zq99 nm w g y n a b r p q k gs T cs U m zs)) (hr : M.btw r 1 8192 = true) (hz : zs.length = m * 3) (hm : m ≤ 100) (hw : -4194304 ≤ w ∧ w ≤ 4194304) (hg : -4194304 ≤ g ∧ g ≤ 4194304) (i : Int) (hi1 : 0 ≤ i) (hq : i < m → (-10000000 ≤ at' zs (i.toNat * 3 + 2) ∧ at' zs (i.toNat * 3 + 2) ≤ 10000000)) (f0 : i < (m : Int)) (f1 : M.btw (at' zs (i.toNat * 3)) (at' zs (i.toNat * 3 + 2)) (w - at' zs (i.toNat * 3 + 2)) = true) (f2 : M.btw (at' zs (i.toNat * 3 + 1)) (at' zs (i.toNat * 3 + 2)) (g - at' zs (i.toNat * 3 + 2)) = true) : Runs cfx 0 4 none (loopOf cfx.P 62 0) (pf_T nm gs cs zs n k m T U w g y a b r p q i) (pf_H nm gs cs zs n k m T U w g y a b r p q i) (Ex.normal) (pf_T nm gs cs zs n k m T U w g y a b r p q (i + 1)) (pf_H nm gs cs zs n k m T U w g y a b r p q (i + 1)) := by
  refine Runs.post (t1 := (catV [lwA nm w g y n a b r p q k, .ptr 2 0, V.raw (.bool false), .slo 3 m, .any 4, .ptr 4 0] (anyR 6 11 (catV [.slo 3 m, iV (m : Int), iV (i + 1), V.raw (.bool (decide (i < (m : Int)))), V.ptr 3 (i.toNat * 3), (rowV zs (i.toNat * 3) 3), .ptr 4 0, .ptr 4 0, iV (at' zs (i.toNat * 3)), .ptr 4 2, iV (at' zs (i.toNat * 3 + 2)), .ptr 2 1, iV w, .ptr 4 2, iV (at' zs (i.toNat * 3 + 2)), iV (w - at' zs (i.toNat * 3 + 2)), V.raw (.bool (M.btw (at' zs (i.toNat * 3)) (at' zs (i.toNat * 3 + 2)) (w - at' zs (i.toNat * 3 + 2)))), V.raw (.bool !M.btw (at' zs (i.toNat * 3)) (at' zs (i.toNat * 3 + 2)) (w - at' zs (i.toNat * 3 + 2))), V.lit false, .ptr 4 0, .ptr 4 1, iV (at' zs (i.toNat * 3 + 1)), .ptr 4 2, iV (at' zs (i.toNat * 3 + 2)), .ptr 2 2, iV g, .ptr 4 2, iV (at' zs (i.toNat * 3 + 2)), iV (g - at' zs (i.toNat * 3 + 2)), V.raw (.bool (M.btw (at' zs (i.toNat * 3 + 1)) (at' zs (i.toNat * 3 + 2)) (g - at' zs (i.toNat * 3 + 2)))), V.raw (.bool !M.btw (at' zs (i.toNat * 3 + 1)) (at' zs (i.toNat * 3 + 2)) (g - at' zs (i.toNat * 3 + 2))), V.raw (.bool !M.btw (at' zs (i.toNat * 3 + 1)) (at' zs (i.toNat * 3 + 2)) (g - at' zs (i.toNat * 3 + 2))), iV (i + 1)] (anyR 50 20 []))))) (h1 := (zq79 gs T cs U nm w g y n a b r p q k zs i)) (body_of cfx_mixed cfx_call zz (rnd := none) (fi := 0) (k := 0) (n := 40) (n0 := 4) (ans := [zT, Ans.val 3 ((rowV zs (i.toNat * 3) 3)), Ans.ret (V.raw (.bool (M.btw (at' zs (i.toNat * 3)) (at' zs (i.toNat * 3 + 2)) (w - at' zs (i.toNat * 3 + 2))))), zF, Ans.ret (V.raw (.bool (M.btw (at' zs (i.toNat * 3 + 1)) (at' zs (i.toNat * 3 + 2)) (g - at' zs (i.toNat * 3 + 2))))), zF, zF]) (cons := [(decide (i < (m : Int)) = true), (0 ≤ i ∧ i < (m : Int)), (loadRow cfx 26 (ints zs) (i.toNat * 3) = some ((rowV zs (i.toNat * 3) 3))), (inR IntKind.i64 (w - at' zs (i.toNat * 3 + 2))), ((zq82 zs i w)), ((!M.btw (at' zs (i.toNat * 3)) (at' zs (i.toNat * 3 + 2)) (w - at' zs (i.toNat * 3 + 2))) = false), (inR IntKind.i64 (g - at' zs (i.toNat * 3 + 2))), ((zq81 zs i g)), zN, ((!M.btw (at' zs (i.toNat * 3 + 1)) (at' zs (i.toNat * 3 + 2)) (g - at' zs (i.toNat * 3 + 2))) = false), (inR IntKind.i64 (i + 1))]) zk
    ⟨zdo, zo, (load_agg 3 zk zk zb zo), inR_i64 zo zo, (lnBetween _ _ _), zdf, inR_i64 zo zo, (lnBetween _ _ _), rfl, zdf, inR_i64 zo zo, trivial⟩ zb zb noRnd (noRanges zk)) zt2
def pf_T4 (nm : ByteArray) (gs cs zs : List Int) (n k m : Nat) (T U : Nat) (w g y a b r p q : Int) (i : Int) : List V := (zq42 nm w g y n a b r p q k m i)
def pf_H4 (nm : ByteArray) (gs cs zs : List Int) (n k m : Nat) (T U : Nat) (w g y a b r p q : Int) (i : Int) : Heap := (zq108 gs T cs U nm w g y n a b r p q k zs)
theorem pf_4 (nm : ByteArray) (gs cs zs : List Int) (n k m : Nat) (T U : Nat) (w g y a b r p q : Int) (hpo : (zq99 nm w g y n a b r p q k gs T cs U m zs)) (hr : M.btw r 1 8192 = true) (hz : zs.length = m * 3) (hm : m ≤ 100) (hw : -4194304 ≤ w ∧ w ≤ 4194304) (hg : -4194304 ≤ g ∧ g ≤ 4194304) (i : Int) (hi1 : 0 ≤ i) (hq : i < m → (-10000000 ≤ at' zs (i.toNat * 3 + 2) ∧ at' zs (i.toNat * 3 + 2) ≤ 10000000)) (f0 : ¬i < (m : Int)) : Runs cfx 0 4 none (loopOf cfx.P 62 0) (pf_T nm gs cs zs n k m T U w g y a b r p q i) (pf_H nm gs cs zs n k m T U w g y a b r p q i) (Ex.exit 0) (pf_T4 nm gs cs zs n k m T U w g y a b r p q i) (pf_H4 nm gs cs zs n k m T U w g y a b r p q i) := by
  refine Runs.post (t1 := (catV [lwA nm w g y n a b r p q k, .ptr 2 0, V.raw (.bool false), .slo 3 m] (anyR 4 13 (catV [.slo 3 m, iV (m : Int), iV i, V.raw (.bool (decide (i < (m : Int))))] (anyR 21 49 []))))) (h1 := (zq108 gs T cs U nm w g y n a b r p q k zs)) (body_of cfx_mixed cfx_call zz (rnd := none) (fi := 0) (k := 0) (n := 40) (n0 := 4) (ans := [zF]) (cons := [(decide (i < (m : Int)) = false)]) zk
    ⟨zdo, trivial⟩ zb zb noRnd (noRanges zk)) zt2
abbrev zq43 (nm : ByteArray) (w : Int) (g : Int) (y : Int) (n : Nat) (a : Int) (b : Int) (r : Int) (p : Int) (q : Int) (k : Nat) (m : Nat) (i : Int) : List V := (catV [lwA nm w g y n a b r p q k, .ptr 2 0, V.raw (.bool false), .slo 3 m] (anyR 4 46 (catV [.slo 3 m, iV (m : Int), iV i] (anyR 53 17 []))))
def pg_T (nm : ByteArray) (gs cs zs : List Int) (n k m : Nat) (T U : Nat) (w g y a b r p q : Int) (i : Int) : List V := (zq43 nm w g y n a b r p q k m i)
def pg_H (nm : ByteArray) (gs cs zs : List Int) (n k m : Nat) (T U : Nat) (w g y a b r p q : Int) (i : Int) : Heap := (zq108 gs T cs U nm w g y n a b r p q k zs)
abbrev zq35 (nm : ByteArray) (w : Int) (g : Int) (y : Int) (n : Nat) (a : Int) (b : Int) (r : Int) (p : Int) (q : Int) (k : Nat) (m : Nat) (i : Int) (j : Int) : List V := (catV [lwA nm w g y n a b r p q k, .ptr 2 0, V.raw (.bool false), .slo 3 m, .any 4, .any 5, iV i, .ptr 4 0] (anyR 8 42 (catV [.slo 3 m, iV (m : Int), iV i] (anyR 53 6 (catV [.slo 3 i.toNat, iV (i.toNat : Int), iV j] (anyR 62 8 []))))))
def ph_T (nm : ByteArray) (gs cs zs : List Int) (n k m : Nat) (T U : Nat) (w g y a b r p q : Int) (i : Int) (j : Int) : List V := (zq35 nm w g y n a b r p q k m i j)
def ph_H (nm : ByteArray) (gs cs zs : List Int) (n k m : Nat) (T U : Nat) (w g y a b r p q : Int) (i : Int) (j : Int) : Heap := (zq79 gs T cs U nm w g y n a b r p q k zs i)
def ph_T1 (nm : ByteArray) (gs cs zs : List Int) (n k m : Nat) (T U : Nat) (w g y a b r p q : Int) (i : Int) (j : Int) : List V := (zq35 nm w g y n a b r p q k m i j)
def ph_H1 (nm : ByteArray) (gs cs zs : List Int) (n k m : Nat) (T U : Nat) (w g y a b r p q : Int) (i : Int) (j : Int) : Heap := (zq79 gs T cs U nm w g y n a b r p q k zs i)
abbrev zq114 (zs : List Int) (i : Int) : List V := [iV (at' zs (i.toNat * 3)), iV (at' zs (i.toNat * 3 + 1)), iV (at' zs (i.toNat * 3 + 2))]
theorem ph_1 (nm : ByteArray) (gs cs zs : List Int) (n k m : Nat) (T U : Nat) (w g y a b r p q : Int) (hpo : (zq99 nm w g y n a b r p q k gs T cs U m zs)) (hr : M.btw r 1 8192 = true) (hz : zs.length = m * 3) (hm : m ≤ 100) (hw : -4194304 ≤ w ∧ w ≤ 4194304) (hg : -4194304 ≤ g ∧ g ≤ 4194304) (i : Int) (hi1 : 0 ≤ i) (hi2 : i < m) (hd : ∀ j : Nat, j < m → chkDisc (at' zs (j * 3)) (at' zs (j * 3 + 1)) (at' zs (j * 3 + 2)) = 0) (j : Int) (hj1 : 0 ≤ j) (f0 : j < (i.toNat : Int)) (f1 : M.overB (at' zs (i.toNat * 3)) (at' zs (i.toNat * 3 + 1)) (at' zs (i.toNat * 3 + 2)) (at' zs (j.toNat * 3)) (at' zs (j.toNat * 3 + 1)) (at' zs (j.toNat * 3 + 2)) = true) : Runs cfx 0 5 none (loopOf cfx.P 62 2) (ph_T nm gs cs zs n k m T U w g y a b r p q i j) (ph_H nm gs cs zs n k m T U w g y a b r p q i j) (Ex.ret) (ph_T1 nm gs cs zs n k m T U w g y a b r p q i j) (ph_H1 nm gs cs zs n k m T U w g y a b r p q i j) := by
  refine Runs.post (t1 := (catV [lwA nm w g y n a b r p q k, .ptr 2 0, V.raw (.bool false), .slo 3 m, .any 4, .any 5, iV i, .ptr 4 0, .any 8, .ptr 5 0] (anyR 10 40 (catV [.slo 3 m, iV (m : Int), iV i] (anyR 53 6 [.slo 3 i.toNat, iV (i.toNat : Int), iV j, V.raw (.bool (decide (j < (i.toNat : Int)))), V.ptr 3 (j.toNat * 3), (rowV zs (j.toNat * 3) 3), (rowV zs (i.toNat * 3) 3), (rowV zs (j.toNat * 3) 3), V.raw (.bool (M.overB (at' zs (i.toNat * 3)) (at' zs (i.toNat * 3 + 1)) (at' zs (i.toNat * 3 + 2)) (at' zs (j.toNat * 3)) (at' zs (j.toNat * 3 + 1)) (at' zs (j.toNat * 3 + 2)))), .any 68, .any 69]))))) (h1 := [bkG gs T, bkI cs U, bkW nm w g y n a b r p q k, some (.cells (ints zs) 26 (.row 3)), some (.cells (zq114 zs i) 26 .rw), some (.cells [iV (at' zs (j.toNat * 3)), iV (at' zs (j.toNat * 3 + 1)), iV (at' zs (j.toNat * 3 + 2))] 26 .rw)]) (body_of cfx_mixed cfx_call zz (rnd := none) (fi := 0) (k := 0) (n := 40) (n0 := 5) (ans := [zT, Ans.val 3 ((rowV zs (j.toNat * 3) 3)), Ans.ret (V.raw (.bool (M.overB (at' zs (i.toNat * 3)) (at' zs (i.toNat * 3 + 1)) (at' zs (i.toNat * 3 + 2)) (at' zs (j.toNat * 3)) (at' zs (j.toNat * 3 + 1)) (at' zs (j.toNat * 3 + 2))))), zT]) (cons := [(decide (j < (i.toNat : Int)) = true), (0 ≤ j ∧ j < (i.toNat : Int)), (loadRow cfx 26 (ints zs) (j.toNat * 3) = some ((rowV zs (j.toNat * 3) 3))), (Ret cfx 99 [V.raw (.agg { toList := [.int .i64 (at' zs (i.toNat * 3)), .int .i64 (at' zs (i.toNat * 3 + 1)), .int .i64 (at' zs (i.toNat * 3 + 2))] }), V.raw (.agg { toList := [.int .i64 (at' zs (j.toNat * 3)), .int .i64 (at' zs (j.toNat * 3 + 1)), .int .i64 (at' zs (j.toNat * 3 + 2))] })] (V.raw (.bool (M.overB (at' zs (i.toNat * 3)) (at' zs (i.toNat * 3 + 1)) (at' zs (i.toNat * 3 + 2)) (at' zs (j.toNat * 3)) (at' zs (j.toNat * 3 + 1)) (at' zs (j.toNat * 3 + 2)))))), (M.overB (at' zs (i.toNat * 3)) (at' zs (i.toNat * 3 + 1)) (at' zs (i.toNat * 3 + 2)) (at' zs (j.toNat * 3)) (at' zs (j.toNat * 3 + 1)) (at' zs (j.toNat * 3 + 2)) = true)]) zk
    ⟨zdo, zo, (load_agg 3 zk zk zb zo), (lnOverlap _ _ _ _ _ _ (hd _ zo) (hd _ zo)), zdf, trivial⟩ zb zb noRnd (noRanges zk)) zt8
theorem ph_2 (nm : ByteArray) (gs cs zs : List Int) (n k m : Nat) (T U : Nat) (w g y a b r p q : Int) (hpo : (zq99 nm w g y n a b r p q k gs T cs U m zs)) (hr : M.btw r 1 8192 = true) (hz : zs.length = m * 3) (hm : m ≤ 100) (hw : -4194304 ≤ w ∧ w ≤ 4194304) (hg : -4194304 ≤ g ∧ g ≤ 4194304) (i : Int) (hi1 : 0 ≤ i) (hi2 : i < m) (hd : ∀ j : Nat, j < m → chkDisc (at' zs (j * 3)) (at' zs (j * 3 + 1)) (at' zs (j * 3 + 2)) = 0) (j : Int) (hj1 : 0 ≤ j) (f0 : j < (i.toNat : Int)) (f1 : M.overB (at' zs (i.toNat * 3)) (at' zs (i.toNat * 3 + 1)) (at' zs (i.toNat * 3 + 2)) (at' zs (j.toNat * 3)) (at' zs (j.toNat * 3 + 1)) (at' zs (j.toNat * 3 + 2)) = false) : Runs cfx 0 5 none (loopOf cfx.P 62 2) (ph_T nm gs cs zs n k m T U w g y a b r p q i j) (ph_H nm gs cs zs n k m T U w g y a b r p q i j) (Ex.normal) (ph_T nm gs cs zs n k m T U w g y a b r p q i (j + 1)) (ph_H nm gs cs zs n k m T U w g y a b r p q i (j + 1)) := by
  refine Runs.post (t1 := (catV [lwA nm w g y n a b r p q k, .ptr 2 0, V.raw (.bool false), .slo 3 m, .any 4, .any 5, iV i, .ptr 4 0, .any 8, .ptr 5 0] (anyR 10 40 (catV [.slo 3 m, iV (m : Int), iV i] (anyR 53 6 [.slo 3 i.toNat, iV (i.toNat : Int), iV (j + 1), V.raw (.bool (decide (j < (i.toNat : Int)))), V.ptr 3 (j.toNat * 3), (rowV zs (j.toNat * 3) 3), (rowV zs (i.toNat * 3) 3), (rowV zs (j.toNat * 3) 3), V.raw (.bool (M.overB (at' zs (i.toNat * 3)) (at' zs (i.toNat * 3 + 1)) (at' zs (i.toNat * 3 + 2)) (at' zs (j.toNat * 3)) (at' zs (j.toNat * 3 + 1)) (at' zs (j.toNat * 3 + 2)))), iV (j + 1), .any 69]))))) (h1 := [bkG gs T, bkI cs U, bkW nm w g y n a b r p q k, some (.cells (ints zs) 26 (.row 3)), some (.cells (zq114 zs i) 26 .rw), some (.cells [iV (at' zs (j.toNat * 3)), iV (at' zs (j.toNat * 3 + 1)), iV (at' zs (j.toNat * 3 + 2))] 26 .rw)]) (body_of cfx_mixed cfx_call zz (rnd := none) (fi := 0) (k := 0) (n := 40) (n0 := 5) (ans := [zT, Ans.val 3 ((rowV zs (j.toNat * 3) 3)), Ans.ret (V.raw (.bool (M.overB (at' zs (i.toNat * 3)) (at' zs (i.toNat * 3 + 1)) (at' zs (i.toNat * 3 + 2)) (at' zs (j.toNat * 3)) (at' zs (j.toNat * 3 + 1)) (at' zs (j.toNat * 3 + 2))))), zF]) (cons := [(decide (j < (i.toNat : Int)) = true), (0 ≤ j ∧ j < (i.toNat : Int)), (loadRow cfx 26 (ints zs) (j.toNat * 3) = some ((rowV zs (j.toNat * 3) 3))), (Ret cfx 99 [V.raw (.agg { toList := [.int .i64 (at' zs (i.toNat * 3)), .int .i64 (at' zs (i.toNat * 3 + 1)), .int .i64 (at' zs (i.toNat * 3 + 2))] }), V.raw (.agg { toList := [.int .i64 (at' zs (j.toNat * 3)), .int .i64 (at' zs (j.toNat * 3 + 1)), .int .i64 (at' zs (j.toNat * 3 + 2))] })] (V.raw (.bool (M.overB (at' zs (i.toNat * 3)) (at' zs (i.toNat * 3 + 1)) (at' zs (i.toNat * 3 + 2)) (at' zs (j.toNat * 3)) (at' zs (j.toNat * 3 + 1)) (at' zs (j.toNat * 3 + 2)))))), (M.overB (at' zs (i.toNat * 3)) (at' zs (i.toNat * 3 + 1)) (at' zs (i.toNat * 3 + 2)) (at' zs (j.toNat * 3)) (at' zs (j.toNat * 3 + 1)) (at' zs (j.toNat * 3 + 2)) = false), (inR IntKind.i64 (j + 1))]) zk
    ⟨zdo, zo, (load_agg 3 zk zk zb zo), (lnOverlap _ _ _ _ _ _ (hd _ zo) (hd _ zo)), zdf, inR_i64 zo zo, trivial⟩ zb zb noRnd (noRanges zk)) zt8
def ph_T3 (nm : ByteArray) (gs cs zs : List Int) (n k m : Nat) (T U : Nat) (w g y a b r p q : Int) (i : Int) (j : Int) : List V := (zq35 nm w g y n a b r p q k m i j)
def ph_H3 (nm : ByteArray) (gs cs zs : List Int) (n k m : Nat) (T U : Nat) (w g y a b r p q : Int) (i : Int) (j : Int) : Heap := (zq79 gs T cs U nm w g y n a b r p q k zs i)
theorem ph_3 (nm : ByteArray) (gs cs zs : List Int) (n k m : Nat) (T U : Nat) (w g y a b r p q : Int) (hpo : (zq99 nm w g y n a b r p q k gs T cs U m zs)) (hr : M.btw r 1 8192 = true) (hz : zs.length = m * 3) (hm : m ≤ 100) (hw : -4194304 ≤ w ∧ w ≤ 4194304) (hg : -4194304 ≤ g ∧ g ≤ 4194304) (i : Int) (hi1 : 0 ≤ i) (hi2 : i < m) (hd : ∀ j : Nat, j < m → chkDisc (at' zs (j * 3)) (at' zs (j * 3 + 1)) (at' zs (j * 3 + 2)) = 0) (j : Int) (hj1 : 0 ≤ j) (f0 : ¬j < (i.toNat : Int)) : Runs cfx 0 5 none (loopOf cfx.P 62 2) (ph_T nm gs cs zs n k m T U w g y a b r p q i j) (ph_H nm gs cs zs n k m T U w g y a b r p q i j) (Ex.exit 4) (ph_T3 nm gs cs zs n k m T U w g y a b r p q i j) (ph_H3 nm gs cs zs n k m T U w g y a b r p q i j) := by
  refine Runs.post (t1 := (catV [lwA nm w g y n a b r p q k, .ptr 2 0, V.raw (.bool false), .slo 3 m, .any 4, .any 5, iV i, .ptr 4 0] (anyR 8 42 (catV [.slo 3 m, iV (m : Int), iV i] (anyR 53 6 (catV [.slo 3 i.toNat, iV (i.toNat : Int), iV j, V.raw (.bool (decide (j < (i.toNat : Int))))] (anyR 63 7 []))))))) (h1 := (zq79 gs T cs U nm w g y n a b r p q k zs i)) (body_of cfx_mixed cfx_call zz (rnd := none) (fi := 0) (k := 0) (n := 40) (n0 := 5) (ans := [zF]) (cons := [(decide (j < (i.toNat : Int)) = false)]) zk
    ⟨zdo, trivial⟩ zb zb noRnd (noRanges zk)) zt8
def M.fitZ (w g : Int) (zs : List Int) (i : Nat) : Bool := M.btw (at' zs (i * 3)) (at' zs (i * 3 + 2)) (w - at' zs (i * 3 + 2)) && M.btw (at' zs (i * 3 + 1)) (at' zs (i * 3 + 2)) (g - at' zs (i * 3 + 2))
def M.apZ (zs : List Int) (i j : Nat) : Bool := !M.overB (at' zs (i * 3)) (at' zs (i * 3 + 1)) (at' zs (i * 3 + 2)) (at' zs (j * 3)) (at' zs (j * 3 + 1)) (at' zs (j * 3 + 2))
def M.fitsB (w g : Int) (zs : List Int) (m : Nat) : Bool := (List.range m).all (M.fitZ w g zs)
def M.apartB (zs : List Int) (m : Nat) : Bool := (List.range m).all fun i => (List.range i).all (M.apZ zs i)
theorem pf_loop (nm : ByteArray) (gs cs zs : List Int) (n k m : Nat) (T U : Nat) (w g y a b r p q : Int) (hpo : (zq99 nm w g y n a b r p q k gs T cs U m zs)) (hr : M.btw r 1 8192 = true) (hz : zs.length = m * 3) (hm : m ≤ 100) (hw : -4194304 ≤ w ∧ w ≤ 4194304) (hg : -4194304 ≤ g ∧ g ≤ 4194304) (hq : ∀ i, i < m → -10000000 ≤ at' zs (i * 3 + 2) ∧ at' zs (i * 3 + 2) ≤ 10000000) : (M.fitsB w g zs m = true ∧ Runs cfx 0 4 none (.loop (loopOf cfx.P 62 0)) (pf_T nm gs cs zs n k m T U w g y a b r p q 0) (pf_H nm gs cs zs n k m T U w g y a b r p q 0) (.exit 0) (pf_T4 nm gs cs zs n k m T U w g y a b r p q m) (pf_H4 nm gs cs zs n k m T U w g y a b r p q m)) ∨ (M.fitsB w g zs m = false ∧ ∃ i : Nat, Runs cfx 0 4 none (.loop (loopOf cfx.P 62 0)) (pf_T nm gs cs zs n k m T U w g y a b r p q 0) (pf_H nm gs cs zs n k m T U w g y a b r p q 0) (.ret) (pf_T1 nm gs cs zs n k m T U w g y a b r p q i) (pf_H1 nm gs cs zs n k m T U w g y a b r p q i)) := by
  rcases upto_find (c := cfx) (lim := 0) (n0 := 4) (x := loopOf cfx.P 62 0) noRnd (M.fitZ w g zs) (fun i : Nat => pf_T nm gs cs zs n k m T U w g y a b r p q i) (fun i : Nat => pf_H nm gs cs zs n k m T U w g y a b r p q i) m (fun i : Nat => pf_T1 nm gs cs zs n k m T U w g y a b r p q i) (fun i : Nat => pf_H1 nm gs cs zs n k m T U w g y a b r p q i) (e := .exit 0) (e1 := .ret) (by simp) (by simp)
    (fun i hi hgd => by
      simp only [M.fitZ, Bool.and_eq_true] at hgd
      exact pf_3 nm gs cs zs n k m T U w g y a b r p q hpo hr hz hm hw hg i zo (fun _ => hq i hi) zo hgd.1 hgd.2)
    (fun i hi hgd => by
      cases q1 : M.btw (at' zs (i * 3)) (at' zs (i * 3 + 2)) (w - at' zs (i * 3 + 2)) with
      | false => exact pf_1 nm gs cs zs n k m T U w g y a b r p q hpo hr hz hm hw hg i zo (fun _ => hq i hi) zo q1
      | true =>
      cases q2 : M.btw (at' zs (i * 3 + 1)) (at' zs (i * 3 + 2)) (g - at' zs (i * 3 + 2)) with
      | false => exact pf_2 nm gs cs zs n k m T U w g y a b r p q hpo hr hz hm hw hg i zo (fun _ => hq i hi) zo q1 q2
      | true => simp [M.fitZ, q1, q2] at hgd)
    (pf_4 nm gs cs zs n k m T U w g y a b r p q hpo hr hz hm hw hg m zo (fun h => by omega) zo) with ⟨h1, h2⟩ | ⟨h1, i, hi, h2, h3, h4⟩
  · exact .inl ⟨h1, h2⟩
  · exact .inr ⟨h1, i, h4⟩
theorem ph_loop (nm : ByteArray) (gs cs zs : List Int) (n k m : Nat) (T U : Nat) (w g y a b r p q : Int) (hpo : (zq99 nm w g y n a b r p q k gs T cs U m zs)) (hr : M.btw r 1 8192 = true) (hz : zs.length = m * 3) (hm : m ≤ 100) (hw : -4194304 ≤ w ∧ w ≤ 4194304) (hg : -4194304 ≤ g ∧ g ≤ 4194304) (hd : ∀ j : Nat, j < m → chkDisc (at' zs (j * 3)) (at' zs (j * 3 + 1)) (at' zs (j * 3 + 2)) = 0) (i : Nat) (hi : i < m) : ((List.range i).all (M.apZ zs i) = true ∧ Runs cfx 0 5 none (.loop (loopOf cfx.P 62 2)) (ph_T nm gs cs zs n k m T U w g y a b r p q i 0) (ph_H nm gs cs zs n k m T U w g y a b r p q i 0) (.exit 4) (ph_T3 nm gs cs zs n k m T U w g y a b r p q i i) (ph_H3 nm gs cs zs n k m T U w g y a b r p q i i)) ∨ ((List.range i).all (M.apZ zs i) = false ∧ ∃ j : Nat, Runs cfx 0 5 none (.loop (loopOf cfx.P 62 2)) (ph_T nm gs cs zs n k m T U w g y a b r p q i 0) (ph_H nm gs cs zs n k m T U w g y a b r p q i 0) (.ret) (ph_T1 nm gs cs zs n k m T U w g y a b r p q i j) (ph_H1 nm gs cs zs n k m T U w g y a b r p q i j)) := by
  rcases upto_find (c := cfx) (lim := 0) (n0 := 5) (x := loopOf cfx.P 62 2) noRnd (M.apZ zs i) (fun j : Nat => ph_T nm gs cs zs n k m T U w g y a b r p q i j) (fun j : Nat => ph_H nm gs cs zs n k m T U w g y a b r p q i j) i (fun j : Nat => ph_T1 nm gs cs zs n k m T U w g y a b r p q i j) (fun j : Nat => ph_H1 nm gs cs zs n k m T U w g y a b r p q i j) (e := .exit 4) (e1 := .ret) (by simp) (by simp)
    (fun j hj hgd => by
      simp only [M.apZ, Bool.not_eq_true'] at hgd
      exact ph_2 nm gs cs zs n k m T U w g y a b r p q hpo hr hz hm hw hg i (by omega) (by omega) hd j (by omega) (by simp only [Int.toNat_natCast]; omega) hgd)
    (fun j hj hgd => by
      simp only [M.apZ, Bool.not_eq_false'] at hgd
      exact ph_1 nm gs cs zs n k m T U w g y a b r p q hpo hr hz hm hw hg i (by omega) (by omega) hd j (by omega) (by simp only [Int.toNat_natCast]; omega) hgd)
    (ph_3 nm gs cs zs n k m T U w g y a b r p q hpo hr hz hm hw hg i (by omega) (by omega) hd i (by omega) (by simp only [Int.toNat_natCast]; omega)) with ⟨h1, h2⟩ | ⟨h1, j, hj, h2, h3, h4⟩
  · exact .inl ⟨h1, h2⟩
  · exact .inr ⟨h1, j, h4⟩
abbrev zq32 (nm : ByteArray) (w : Int) (g : Int) (y : Int) (n : Nat) (a : Int) (b : Int) (r : Int) (p : Int) (q : Int) (k : Nat) (m : Nat) (i : Int) (zs : List Int) : List V := (catV [lwA nm w g y n a b r p q k, .ptr 2 0, V.raw (.bool false), .slo 3 m, .any 4, .any 5, iV i, .ptr 4 0] (anyR 8 42 (catV [.slo 3 m, iV (m : Int), iV i, V.raw (.bool (decide (i < (m : Int)))), iV i, V.ptr 3 (i.toNat * 3), (rowV zs (i.toNat * 3) 3), .slo 3 m, iV i, .slo 3 i.toNat, iV (i.toNat : Int), iV 0] (anyR 62 8 []))))
abbrev zq36 (nm : ByteArray) (w : Int) (g : Int) (y : Int) (n : Nat) (a : Int) (b : Int) (r : Int) (p : Int) (q : Int) (k : Nat) (m : Nat) (i : Int) : List V := (catV [lwA nm w g y n a b r p q k, .ptr 2 0, V.raw (.bool false), .slo 3 m, .any 4, .any 5, iV i, .ptr 4 0] (anyR 8 42 (catV [.slo 3 m, iV (m : Int), iV i] (anyR 53 6 (catV [.slo 3 i.toNat, iV (i.toNat : Int), iV i] (anyR 62 8 []))))))
theorem pga_1 (nm : ByteArray) (gs cs zs : List Int) (n k m : Nat) (T U : Nat) (w g y a b r p q : Int) (hpo : (zq99 nm w g y n a b r p q k gs T cs U m zs)) (hr : M.btw r 1 8192 = true) (hz : zs.length = m * 3) (hm : m ≤ 100) (hw : -4194304 ≤ w ∧ w ≤ 4194304) (hg : -4194304 ≤ g ∧ g ≤ 4194304) (i : Int) (hi1 : 0 ≤ i) (hi2 : i < (m : Int)) (hR : Runs cfx 0 5 none (.loop (loopOf cfx.P 62 2)) (ph_T nm gs cs zs n k m T U w g y a b r p q i 0) (ph_H nm gs cs zs n k m T U w g y a b r p q i 0) (.exit 4) (ph_T3 nm gs cs zs n k m T U w g y a b r p q i i) (ph_H3 nm gs cs zs n k m T U w g y a b r p q i i))  : Runs cfx 0 4 none (loopOf cfx.P 62 1) (pg_T nm gs cs zs n k m T U w g y a b r p q i) (pg_H nm gs cs zs n k m T U w g y a b r p q i) (Ex.normal) (pg_T nm gs cs zs n k m T U w g y a b r p q (i + 1)) (pg_H nm gs cs zs n k m T U w g y a b r p q (i + 1)) := by
  refine Runs.post (t1 := (catV [lwA nm w g y n a b r p q k, .ptr 2 0, V.raw (.bool false), .slo 3 m, .any 4, .any 5, iV i, .ptr 4 0] (anyR 8 42 (catV [.slo 3 m, iV (m : Int), iV (i + 1)] (anyR 53 6 (catV [.slo 3 i.toNat, iV (i.toNat : Int), iV i] (anyR 62 7 [iV (i + 1)]))))))) (h1 := (zq79 gs T cs U nm w g y n a b r p q k zs i)) (body_of cfx_mixed cfx_call zz (rnd := none) (fi := 0) (k := 0) (n := 40) (n0 := 4) (ans := [zT, Ans.val 3 ((rowV zs (i.toNat * 3) 3)), Ans.loop (Ex.exit 4) (zq36 nm w g y n a b r p q k m i) (zq79 gs T cs U nm w g y n a b r p q k zs i)]) (cons := [(decide (i < (m : Int)) = true), (0 ≤ i ∧ i < (m : Int)), (loadRow cfx 26 (ints zs) (i.toNat * 3) = some ((rowV zs (i.toNat * 3) 3))), (0 ≤ i ∧ i ≤ (m : Int) ∧ 0 < 3 ∧ m * 3 ≤ (ints zs).length), (Runs cfx 0 5 none (.loop (loopOf cfx.P 62 2)) (zq32 nm w g y n a b r p q k m i zs) (zq79 gs T cs U nm w g y n a b r p q k zs i) (Ex.exit 4) (zq36 nm w g y n a b r p q k m i) (zq79 gs T cs U nm w g y n a b r p q k zs i)), (inR IntKind.i64 (i + 1))]) zk
    ⟨zdo, zo, (load_agg 3 zk zk zb zo), zdl, (by
      refine Runs.pre (fun b e => by cases e) (fun RT RH => ?_) (hR)
      exact reshape2 (lim := 0) 5 (t := (zq32 nm w g y n a b r p q k m i zs)) (h := (zq79 gs T cs U nm w g y n a b r p q k zs i)) cfx_G rfl [] zk zk zdr RT RH), inR_i64 zo zo, trivial⟩ zb zb noRnd (noRanges zk)) zt2
def pgb_T1 (nm : ByteArray) (gs cs zs : List Int) (n k m : Nat) (T U : Nat) (w g y a b r p q : Int) (i : Int) (j : Nat) : List V := (zq43 nm w g y n a b r p q k m i)
def pgb_H1 (nm : ByteArray) (gs cs zs : List Int) (n k m : Nat) (T U : Nat) (w g y a b r p q : Int) (i : Int) (j : Nat) : Heap := (zq108 gs T cs U nm w g y n a b r p q k zs)
abbrev zq34 (nm : ByteArray) (w : Int) (g : Int) (y : Int) (n : Nat) (a : Int) (b : Int) (r : Int) (p : Int) (q : Int) (k : Nat) (m : Nat) (i : Int) (j : Nat) : List V := (catV [lwA nm w g y n a b r p q k, .ptr 2 0, V.raw (.bool false), .slo 3 m, .any 4, .any 5, iV i, .ptr 4 0] (anyR 8 42 (catV [.slo 3 m, iV (m : Int), iV i] (anyR 53 6 (catV [.slo 3 i.toNat, iV (i.toNat : Int), iV (j : Int)] (anyR 62 8 []))))))
theorem pgb_1 (nm : ByteArray) (gs cs zs : List Int) (n k m : Nat) (T U : Nat) (w g y a b r p q : Int) (hpo : (zq99 nm w g y n a b r p q k gs T cs U m zs)) (hr : M.btw r 1 8192 = true) (hz : zs.length = m * 3) (hm : m ≤ 100) (hw : -4194304 ≤ w ∧ w ≤ 4194304) (hg : -4194304 ≤ g ∧ g ≤ 4194304) (i : Int) (hi1 : 0 ≤ i) (hi2 : i < (m : Int)) (j : Nat) (hR : Runs cfx 0 5 none (.loop (loopOf cfx.P 62 2)) (ph_T nm gs cs zs n k m T U w g y a b r p q i 0) (ph_H nm gs cs zs n k m T U w g y a b r p q i 0) (.ret) (ph_T1 nm gs cs zs n k m T U w g y a b r p q i j) (ph_H1 nm gs cs zs n k m T U w g y a b r p q i j))  : Runs cfx 0 4 none (loopOf cfx.P 62 1) (pg_T nm gs cs zs n k m T U w g y a b r p q i) (pg_H nm gs cs zs n k m T U w g y a b r p q i) (Ex.ret) (pgb_T1 nm gs cs zs n k m T U w g y a b r p q i j) (pgb_H1 nm gs cs zs n k m T U w g y a b r p q i j) := by
  refine Runs.post (t1 := (zq34 nm w g y n a b r p q k m i j)) (h1 := (zq79 gs T cs U nm w g y n a b r p q k zs i)) (body_of cfx_mixed cfx_call zz (rnd := none) (fi := 0) (k := 0) (n := 40) (n0 := 4) (ans := [zT, Ans.val 3 ((rowV zs (i.toNat * 3) 3)), Ans.loop Ex.ret (zq34 nm w g y n a b r p q k m i j) (zq79 gs T cs U nm w g y n a b r p q k zs i)]) (cons := [(decide (i < (m : Int)) = true), (0 ≤ i ∧ i < (m : Int)), (loadRow cfx 26 (ints zs) (i.toNat * 3) = some ((rowV zs (i.toNat * 3) 3))), (0 ≤ i ∧ i ≤ (m : Int) ∧ 0 < 3 ∧ m * 3 ≤ (ints zs).length), (Runs cfx 0 5 none (.loop (loopOf cfx.P 62 2)) (zq32 nm w g y n a b r p q k m i zs) (zq79 gs T cs U nm w g y n a b r p q k zs i) (Ex.ret) (zq34 nm w g y n a b r p q k m i j) (zq79 gs T cs U nm w g y n a b r p q k zs i))]) zk
    ⟨zdo, zo, (load_agg 3 zk zk zb zo), zdl, (by
      refine Runs.pre (fun b e => by cases e) (fun RT RH => ?_) (hR)
      exact reshape2 (lim := 0) 5 (t := (zq32 nm w g y n a b r p q k m i zs)) (h := (zq79 gs T cs U nm w g y n a b r p q k zs i)) cfx_G rfl [] zk zk zdr RT RH), trivial⟩ zb zb noRnd (noRanges zk)) zt2
def pgc_T1 (nm : ByteArray) (gs cs zs : List Int) (n k m : Nat) (T U : Nat) (w g y a b r p q : Int) (i : Int) : List V := (zq43 nm w g y n a b r p q k m i)
def pgc_H1 (nm : ByteArray) (gs cs zs : List Int) (n k m : Nat) (T U : Nat) (w g y a b r p q : Int) (i : Int) : Heap := (zq108 gs T cs U nm w g y n a b r p q k zs)
theorem pgc_1 (nm : ByteArray) (gs cs zs : List Int) (n k m : Nat) (T U : Nat) (w g y a b r p q : Int) (hpo : (zq99 nm w g y n a b r p q k gs T cs U m zs)) (hr : M.btw r 1 8192 = true) (hz : zs.length = m * 3) (hm : m ≤ 100) (hw : -4194304 ≤ w ∧ w ≤ 4194304) (hg : -4194304 ≤ g ∧ g ≤ 4194304) (i : Int) (hi1 : 0 ≤ i) (hi2 : ¬ i < (m : Int))  : Runs cfx 0 4 none (loopOf cfx.P 62 1) (pg_T nm gs cs zs n k m T U w g y a b r p q i) (pg_H nm gs cs zs n k m T U w g y a b r p q i) (Ex.exit 2) (pgc_T1 nm gs cs zs n k m T U w g y a b r p q i) (pgc_H1 nm gs cs zs n k m T U w g y a b r p q i) := by
  refine Runs.post (t1 := (catV [lwA nm w g y n a b r p q k, .ptr 2 0, V.raw (.bool false), .slo 3 m] (anyR 4 46 (catV [.slo 3 m, iV (m : Int), iV i, V.raw (.bool (decide (i < (m : Int))))] (anyR 54 16 []))))) (h1 := (zq108 gs T cs U nm w g y n a b r p q k zs)) (body_of cfx_mixed cfx_call zz (rnd := none) (fi := 0) (k := 0) (n := 40) (n0 := 4) (ans := [zF]) (cons := [(decide (i < (m : Int)) = false)]) zk
    ⟨zdo, trivial⟩ zb zb noRnd (noRanges zk)) zt2
theorem lnTouches (x y d u v s : Int) (h1 : chkDisc u v s = 0) (h2 : chkDisc x y d = 0)  : Meets cfx 0 107 [.raw (.agg #[.int .i64 x, .int .i64 y, .int .i64 d]), .ptr 0 0] [some (.cells [.raw (.int .i64 u), .raw (.int .i64 v), .raw (.int .i64 s)] 26 .ro)] (V.raw (.bool (M.overB u v s x y d))) [some (.cells [iV u, iV v, iV s] 26 .ro)] := by
  refine Meets.post (mev (ans := [Ans.go, Ans.ret (V.raw (.bool (M.overB u v s x y d)))]) (v := V.raw (.bool (M.overB u v s x y d))) (h' := [some (.cells [iV u, iV v, iV s] 26 .ro), some (.cells [iV x, iV y, iV d] 26 .rw)]) (cons := [(Ret cfx 99 [V.raw (.agg { toList := [.int .i64 u, .int .i64 v, .int .i64 s] }), V.raw (.agg { toList := [.int .i64 x, .int .i64 y, .int .i64 d] })] (V.raw (.bool (M.overB u v s x y d))))]) zk
    ⟨(lnOverlap _ _ _ _ _ _ h1 h2), trivial⟩) zk (fun RT RH => reshape2 (lim := 0) 1 cfx_G rfl [] zk zk (by exact (ents_say rfl rfl rfl rfl (ents_nil))) RT RH)
theorem oth_loop (os : List Int) (m : Nat) (W : Nat) (hz : m * 3 ≤ os.length) (hm : m ≤ 12) : (M.othB os m = true ∧ Runs cfx 0 1 none (.loop (loopOf cfx.P 64 0)) (oth_T os m W 0) (oth_H os m W 0) (.exit 0) (oth_T4 os m W m) (oth_H4 os m W m)) ∨ (M.othB os m = false ∧ ∃ t h, ((∃ i : Nat, t = oth_T1 os m W i ∧ h = oth_H1 os m W i) ∨ (∃ i : Nat, t = oth_T2 os m W i ∧ h = oth_H2 os m W i)) ∧ Runs cfx 0 1 none (.loop (loopOf cfx.P 64 0)) (oth_T os m W 0) (oth_H os m W 0) (.ret) t h) :=
  upto_findB (c := cfx) (lim := 0) (n0 := 1) (x := loopOf cfx.P 64 0) noRnd (M.othZ os) (fun i : Nat => oth_T os m W i) (fun i : Nat => oth_H os m W i) m (e := .exit 0) (e1 := .ret) _ (by simp) (by simp)
    (fun i hi hg => by
      simp only [M.othZ, Bool.and_eq_true] at hg
      exact oth_3 os m W hz hm i zo zo (M.pt_iff.2 (M.ptB_iff.1 hg.1)) (M.rad_iff.2 (M.btw_iff.1 hg.2)))
    (fun i hi hg => by
      by_cases h1 : M.ptE (at' os (i * 3)) (at' os (i * 3 + 1)) = 0
      · by_cases h2 : M.radE (at' os (i * 3 + 2)) = 0
        · rw [M.othZ, M.ptB_iff.2 (M.pt_iff.1 h1), M.btw_iff.2 (M.rad_iff.1 h2)] at hg
          cases hg
        · exact ⟨_, _, .inr ⟨i, rfl, rfl⟩, oth_2 os m W hz hm i zo zo h1 h2⟩
      · exact ⟨_, _, .inl ⟨i, rfl, rfl⟩, oth_1 os m W hz hm i zo zo h1⟩)
    (oth_4 os m W hz hm m zo zo)
theorem oth_many (os : List Int) (m : Nat) (W : Nat) (hm : 12 < m) (hb : m ≤ 1000000000)  : Meets cfx 0 64 [.slo 0 m] [bkI os W] (iV 6) [bkI os W] := by
  refine Meets.post (mev (ans := [Ans.go, zT]) (v := (iV 6)) (h' := [bkI os W]) (cons := [(decide (12 < (m : Int)) = true)]) zk
    ⟨zdo, trivial⟩) zk zt1
abbrev zq121 (m : Nat) (i : Nat) : List V := (catV [.slo 0 m, uV, iV 2, uV, .any 4, .slo 0 m, iV (m : Int), V.raw (.bool (decide (12 < (m : Int)))), .slo 0 m, iV (m : Int), iV (i : Int)] (anyR 11 14 []))
abbrev zq127 (m : Nat) : List V := (catV [.slo 0 m, uV, iV 0, uV, uV, .slo 0 m, iV (m : Int), V.raw (.bool (decide (12 < (m : Int)))), .slo 0 m, iV (m : Int), iV 0] (repU 14 []))
abbrev zq52 (m : Nat) (os : List Int) (W : Nat) (i : Nat) : Prop := Runs cfx 0 1 none (.loop (loopOf cfx.P 64 0)) (zq127 m) [bkI os W] (Ex.ret) (zq121 m i) [bkI os W]
abbrev zq69 (m : Nat) (i : Nat) : List V := (zq121 m i)
abbrev zq95 (m : Nat) : List V := (zq127 m)
theorem oth_bad1 (os : List Int) (m : Nat) (W : Nat) (hz : m * 3 ≤ os.length) (hm : m ≤ 12) (i : Nat) (hR : Runs cfx 0 1 none (.loop (loopOf cfx.P 64 0)) (oth_T os m W 0) (oth_H os m W 0) (.ret) (oth_T1 os m W i) (oth_H1 os m W i))  : Meets cfx 0 64 [.slo 0 m] [bkI os W] (iV 2) [bkI os W] := by
  refine Meets.post (mev (ans := [Ans.go, zF, Ans.loop Ex.ret (zq69 m i) [bkI os W]]) (v := (iV 2)) (h' := [bkI os W]) (cons := [(decide (12 < (m : Int)) = false), ((zq52 m os W i))]) zk
    ⟨zdo, (by
      refine Runs.pre (fun b e => by cases e) (fun RT RH => ?_) (hR)
      exact reshape2 (lim := 0) 1 (t := (zq95 m)) (h := [bkI os W]) cfx_G rfl [] zk zk zdr RT RH), trivial⟩) zk zt1
theorem oth_bad2 (os : List Int) (m : Nat) (W : Nat) (hz : m * 3 ≤ os.length) (hm : m ≤ 12) (i : Nat) (hR : Runs cfx 0 1 none (.loop (loopOf cfx.P 64 0)) (oth_T os m W 0) (oth_H os m W 0) (.ret) (oth_T2 os m W i) (oth_H2 os m W i))  : Meets cfx 0 64 [.slo 0 m] [bkI os W] (iV 2) [bkI os W] := by
  refine Meets.post (mev (ans := [Ans.go, zF, Ans.loop Ex.ret (zq69 m i) [bkI os W]]) (v := (iV 2)) (h' := [bkI os W]) (cons := [(decide (12 < (m : Int)) = false), ((zq52 m os W i))]) zk
    ⟨zdo, (by
      refine Runs.pre (fun b e => by cases e) (fun RT RH => ?_) (hR)
      exact reshape2 (lim := 0) 1 (t := (zq95 m)) (h := [bkI os W]) cfx_G rfl [] zk zk zdr RT RH), trivial⟩) zk zt1
abbrev zq70 (m : Nat) : List V := (catV [.slo 0 m, uV, iV 0, uV, .any 4, .slo 0 m, iV (m : Int), V.raw (.bool (decide (12 < (m : Int)))), .slo 0 m, iV (m : Int), iV (m : Int)] (anyR 11 14 []))
theorem oth_ok (os : List Int) (m : Nat) (W : Nat) (hz : m * 3 ≤ os.length) (hm : m ≤ 12) (hR : Runs cfx 0 1 none (.loop (loopOf cfx.P 64 0)) (oth_T os m W 0) (oth_H os m W 0) (.exit 0) (oth_T4 os m W m) (oth_H4 os m W m))  : Meets cfx 0 64 [.slo 0 m] [bkI os W] (iV 0) [bkI os W] := by
  refine Meets.post (mev (ans := [Ans.go, zF, Ans.loop (Ex.exit 0) (zq70 m) [bkI os W]]) (v := (iV 0)) (h' := [bkI os W]) (cons := [(decide (12 < (m : Int)) = false), (Runs cfx 0 1 none (.loop (loopOf cfx.P 64 0)) (zq95 m) [bkI os W] (Ex.exit 0) (zq70 m) [bkI os W])]) zk
    ⟨zdo, (by
      refine Runs.pre (fun b e => by cases e) (fun RT RH => ?_) (hR)
      exact reshape2 (lim := 0) 1 (t := (zq95 m)) (h := [bkI os W]) cfx_G rfl [] zk zk zdr RT RH), trivial⟩) zk zt1
theorem lnOthers (os : List Int) (m : Nat) (W : Nat) (hz : m * 3 ≤ os.length) (hb : m ≤ 1000000) : Meets cfx 0 64 [.slo 0 m] [bkI os W] (.raw (.int .i64 (M.othE os m))) [bkI os W] := by
  unfold M.othE
  by_cases hm : 12 < m
  · rw [if_pos hm]; exact oth_many os m W hm (by omega)
  rw [if_neg hm]
  rcases oth_loop os m W hz (by omega) with ⟨e, R⟩ | ⟨e, t, h, ⟨i, rfl, rfl⟩ | ⟨i, rfl, rfl⟩, R⟩ <;> rw [e]
  · exact oth_ok os m W hz zo R
  · exact oth_bad1 os m W hz zo i R
  · exact oth_bad2 os m W hz zo i R
theorem M.oth_ok {os : List Int} {m : Nat} (h : M.othE os m = 0) : m ≤ 12 ∧ ∀ i : Nat, i < m → M.In (at' os (i * 3)) (at' os (i * 3 + 1)) ∧ 1 ≤ at' os (i * 3 + 2) ∧ at' os (i * 3 + 2) ≤ 16384 := by
  unfold M.othE at h
  by_cases hm : 12 < m
  · rw [if_pos hm] at h; omega
  · rw [if_neg hm] at h
    cases hb : M.othB os m with
    | false => rw [hb, if_neg (by simp)] at h; omega
    | true =>
      refine ⟨by omega, fun i hi => ?_⟩
      have h1 := all_range hb i hi
      unfold M.othZ at h1
      rw [Bool.and_eq_true] at h1
      exact ⟨M.ptB_iff.1 h1.1, M.btw_iff.1 h1.2⟩
end Go.Proofs.YteefjegampdpoaaDoor
end
