/-
  Part of a claim: the reckoner and contracts.
-/
import Derived.Test.YtgjbdlahjbppoaaDoorPMb
set_option linter.unusedVariables false
set_option linter.unusedSimpArgs false
set_option maxRecDepth 100000
section
namespace Go.Proofs.YtgjbdlahjbppoaaDoor
open Go Go.RowKit Go.Proofs.YtgjbdlahjbppoaaDoor.E2
abbrev zq30 (n : Nat) (i : Int) : List V := (catV [.slo 0 n, uV, V.raw (.bool false), uV, .any 4, .slo 0 n, iV (n : Int), iV i] (anyR 8 32 []))
def hf_T (gs : List Int) (n : Nat) (T : Nat) (i : Int) : List V := (zq30 n i)
def hf_H (gs : List Int) (n : Nat) (T : Nat) (i : Int) : Heap := [bkG gs T]
def hf_T1 (gs : List Int) (n : Nat) (T : Nat) (i : Int) : List V := (zq30 n i)
def hf_H1 (gs : List Int) (n : Nat) (T : Nat) (i : Int) : Heap := [bkG gs T]
abbrev zq47 (gs : List Int) (T : Nat) (i : Int) : Heap := [bkG gs T, some (.cells [iV (at' gs (i.toNat * 5)), iV (at' gs (i.toNat * 5 + 1)), iV (at' gs (i.toNat * 5 + 2)), iV (at' gs (i.toNat * 5 + 3)), V.raw (.bool (nz gs (i.toNat * 5 + 4)))] 66 .rw)]
abbrev zq56 (gs : List Int) (i : Int) : Prop := Ret cfx 83 [iV (at' gs (i.toNat * 5)), iV 0, iV 4194304] (V.raw (.bool (M.btw (at' gs (i.toNat * 5)) 0 4194304)))
theorem hf_1 (gs : List Int) (n : Nat) (T : Nat) (hz : n * 5 ≤ gs.length) (hn : n ≤ 20) (i : Int) (hi1 : 0 ≤ i) (f0 : i < (n : Int)) (f1 : M.btw (at' gs (i.toNat * 5)) 0 4194304 = false) : Runs cfx 0 1 none (loopOf cfx.P 74 0) (hf_T gs n T i) (hf_H gs n T i) (Ex.ret) (hf_T1 gs n T i) (hf_H1 gs n T i) := by
  refine Runs.post (t1 := [.slo 0 n, uV, V.raw (.bool false), uV, .ptr 1 0, .slo 0 n, iV (n : Int), iV i, V.raw (.bool (decide (i < (n : Int)))), V.ptr 0 (i.toNat * 5), V.raw (.agg { toList := [.int .i64 (at' gs (i.toNat * 5)), .int .i64 (at' gs (i.toNat * 5 + 1)), .int .i64 (at' gs (i.toNat * 5 + 2)), .int .i64 (at' gs (i.toNat * 5 + 3)), .bool (nz gs (i.toNat * 5 + 4))] }), .ptr 1 0, iV (at' gs (i.toNat * 5)), V.raw (.bool (M.btw (at' gs (i.toNat * 5)) 0 4194304)), V.raw (.bool !M.btw (at' gs (i.toNat * 5)) 0 4194304), V.lit true, uV, uV, uV, uV, V.raw (.bool true), V.lit true, uV, uV, uV, uV, V.raw (.bool true), V.lit true, uV, uV, uV, uV, V.raw (.bool true), V.lit true, uV, uV, uV, uV, V.raw (.bool true), .any 39]) (h1 := (zq47 gs T i)) (body_of cfx_mixed cfx_call zz (rnd := none) (fi := 0) (k := 0) (n := 40) (n0 := 1) (ans := [zT, Ans.val 0 (V.raw (.agg { toList := [.int .i64 (at' gs (i.toNat * 5)), .int .i64 (at' gs (i.toNat * 5 + 1)), .int .i64 (at' gs (i.toNat * 5 + 2)), .int .i64 (at' gs (i.toNat * 5 + 3)), .bool (nz gs (i.toNat * 5 + 4))] })), Ans.ret (V.raw (.bool (M.btw (at' gs (i.toNat * 5)) 0 4194304))), zT, zT, zT, zT, zT, zT, zT, zT, zT]) (cons := [(decide (i < (n : Int)) = true), (0 ≤ i ∧ i < (n : Int)), (loadRow cfx 66 (mix [false, false, false, false, true] gs) (i.toNat * 5) = some (V.raw (.agg { toList := [.int .i64 (at' gs (i.toNat * 5)), .int .i64 (at' gs (i.toNat * 5 + 1)), .int .i64 (at' gs (i.toNat * 5 + 2)), .int .i64 (at' gs (i.toNat * 5 + 3)), .bool (nz gs (i.toNat * 5 + 4))] }))), ((zq56 gs i)), ((!M.btw (at' gs (i.toNat * 5)) 0 4194304) = true), zY, zY, zY, zY, zY, zY, zY, zY]) zk
    ⟨zdo, (by omega), (load_mix 5 0 (by kernel_rfl) (by kernel_rfl) (Nat.le_of_ble_eq_true rfl) (by show _ % 5 = 0; omega) (Nat.le_of_ble_eq_true rfl) (by omega)), (lnBetween _ _ _), zdf, rfl, rfl, rfl, rfl, rfl, rfl, rfl, rfl, trivial⟩ (Nat.le_of_ble_eq_true rfl) (Nat.le_of_ble_eq_true rfl) noRnd (noRanges (by kernel_rfl))) zt3
def hf_T2 (gs : List Int) (n : Nat) (T : Nat) (i : Int) : List V := (zq30 n i)
def hf_H2 (gs : List Int) (n : Nat) (T : Nat) (i : Int) : Heap := [bkG gs T]
abbrev zq54 (gs : List Int) (i : Int) : Prop := Ret cfx 83 [iV (at' gs (i.toNat * 5 + 1)), iV 0, iV 4194304] (V.raw (.bool (M.btw (at' gs (i.toNat * 5 + 1)) 0 4194304)))
theorem hf_2 (gs : List Int) (n : Nat) (T : Nat) (hz : n * 5 ≤ gs.length) (hn : n ≤ 20) (i : Int) (hi1 : 0 ≤ i) (f0 : i < (n : Int)) (f1 : M.btw (at' gs (i.toNat * 5)) 0 4194304 = true) (f2 : M.btw (at' gs (i.toNat * 5 + 1)) 0 4194304 = false) : Runs cfx 0 1 none (loopOf cfx.P 74 0) (hf_T gs n T i) (hf_H gs n T i) (Ex.ret) (hf_T2 gs n T i) (hf_H2 gs n T i) := by
  refine Runs.post (t1 := [.slo 0 n, uV, V.raw (.bool false), uV, .ptr 1 0, .slo 0 n, iV (n : Int), iV i, V.raw (.bool (decide (i < (n : Int)))), V.ptr 0 (i.toNat * 5), V.raw (.agg { toList := [.int .i64 (at' gs (i.toNat * 5)), .int .i64 (at' gs (i.toNat * 5 + 1)), .int .i64 (at' gs (i.toNat * 5 + 2)), .int .i64 (at' gs (i.toNat * 5 + 3)), .bool (nz gs (i.toNat * 5 + 4))] }), .ptr 1 0, iV (at' gs (i.toNat * 5)), V.raw (.bool (M.btw (at' gs (i.toNat * 5)) 0 4194304)), V.raw (.bool !M.btw (at' gs (i.toNat * 5)) 0 4194304), V.lit false, .ptr 1 1, iV (at' gs (i.toNat * 5 + 1)), V.raw (.bool (M.btw (at' gs (i.toNat * 5 + 1)) 0 4194304)), V.raw (.bool !M.btw (at' gs (i.toNat * 5 + 1)) 0 4194304), V.raw (.bool !M.btw (at' gs (i.toNat * 5 + 1)) 0 4194304), V.lit true, uV, uV, uV, uV, V.raw (.bool true), V.lit true, uV, uV, uV, uV, V.raw (.bool true), V.lit true, uV, uV, uV, uV, V.raw (.bool true), .any 39]) (h1 := (zq47 gs T i)) (body_of cfx_mixed cfx_call zz (rnd := none) (fi := 0) (k := 0) (n := 40) (n0 := 1) (ans := [zT, Ans.val 0 (V.raw (.agg { toList := [.int .i64 (at' gs (i.toNat * 5)), .int .i64 (at' gs (i.toNat * 5 + 1)), .int .i64 (at' gs (i.toNat * 5 + 2)), .int .i64 (at' gs (i.toNat * 5 + 3)), .bool (nz gs (i.toNat * 5 + 4))] })), Ans.ret (V.raw (.bool (M.btw (at' gs (i.toNat * 5)) 0 4194304))), zF, Ans.ret (V.raw (.bool (M.btw (at' gs (i.toNat * 5 + 1)) 0 4194304))), zF, zT, zT, zT, zT, zT, zT, zT]) (cons := [(decide (i < (n : Int)) = true), (0 ≤ i ∧ i < (n : Int)), (loadRow cfx 66 (mix [false, false, false, false, true] gs) (i.toNat * 5) = some (V.raw (.agg { toList := [.int .i64 (at' gs (i.toNat * 5)), .int .i64 (at' gs (i.toNat * 5 + 1)), .int .i64 (at' gs (i.toNat * 5 + 2)), .int .i64 (at' gs (i.toNat * 5 + 3)), .bool (nz gs (i.toNat * 5 + 4))] }))), ((zq56 gs i)), ((!M.btw (at' gs (i.toNat * 5)) 0 4194304) = false), ((zq54 gs i)), zN, ((!M.btw (at' gs (i.toNat * 5 + 1)) 0 4194304) = true), zY, zY, zY, zY, zY, zY]) zk
    ⟨zdo, (by omega), (load_mix 5 0 (by kernel_rfl) (by kernel_rfl) (Nat.le_of_ble_eq_true rfl) (by show _ % 5 = 0; omega) (Nat.le_of_ble_eq_true rfl) (by omega)), (lnBetween _ _ _), zdf, (lnBetween _ _ _), rfl, zdf, rfl, rfl, rfl, rfl, rfl, rfl, trivial⟩ (Nat.le_of_ble_eq_true rfl) (Nat.le_of_ble_eq_true rfl) noRnd (noRanges (by kernel_rfl))) zt3
def hf_T3 (gs : List Int) (n : Nat) (T : Nat) (i : Int) : List V := (zq30 n i)
def hf_H3 (gs : List Int) (n : Nat) (T : Nat) (i : Int) : Heap := [bkG gs T]
abbrev zq55 (gs : List Int) (i : Int) : Prop := Ret cfx 83 [iV (at' gs (i.toNat * 5 + 2)), iV 2, iV 32768] (V.raw (.bool (M.btw (at' gs (i.toNat * 5 + 2)) 2 32768)))
theorem hf_3 (gs : List Int) (n : Nat) (T : Nat) (hz : n * 5 ≤ gs.length) (hn : n ≤ 20) (i : Int) (hi1 : 0 ≤ i) (f0 : i < (n : Int)) (f1 : M.btw (at' gs (i.toNat * 5)) 0 4194304 = true) (f2 : M.btw (at' gs (i.toNat * 5 + 1)) 0 4194304 = true) (f3 : M.btw (at' gs (i.toNat * 5 + 2)) 2 32768 = false) : Runs cfx 0 1 none (loopOf cfx.P 74 0) (hf_T gs n T i) (hf_H gs n T i) (Ex.ret) (hf_T3 gs n T i) (hf_H3 gs n T i) := by
  refine Runs.post (t1 := [.slo 0 n, uV, V.raw (.bool false), uV, .ptr 1 0, .slo 0 n, iV (n : Int), iV i, V.raw (.bool (decide (i < (n : Int)))), V.ptr 0 (i.toNat * 5), V.raw (.agg { toList := [.int .i64 (at' gs (i.toNat * 5)), .int .i64 (at' gs (i.toNat * 5 + 1)), .int .i64 (at' gs (i.toNat * 5 + 2)), .int .i64 (at' gs (i.toNat * 5 + 3)), .bool (nz gs (i.toNat * 5 + 4))] }), .ptr 1 0, iV (at' gs (i.toNat * 5)), V.raw (.bool (M.btw (at' gs (i.toNat * 5)) 0 4194304)), V.raw (.bool !M.btw (at' gs (i.toNat * 5)) 0 4194304), V.lit false, .ptr 1 1, iV (at' gs (i.toNat * 5 + 1)), V.raw (.bool (M.btw (at' gs (i.toNat * 5 + 1)) 0 4194304)), V.raw (.bool !M.btw (at' gs (i.toNat * 5 + 1)) 0 4194304), V.raw (.bool !M.btw (at' gs (i.toNat * 5 + 1)) 0 4194304), V.lit false, .ptr 1 2, iV (at' gs (i.toNat * 5 + 2)), V.raw (.bool (M.btw (at' gs (i.toNat * 5 + 2)) 2 32768)), V.raw (.bool !M.btw (at' gs (i.toNat * 5 + 2)) 2 32768), V.raw (.bool !M.btw (at' gs (i.toNat * 5 + 2)) 2 32768), V.lit true, uV, uV, uV, uV, V.raw (.bool true), V.lit true, uV, uV, uV, uV, V.raw (.bool true), .any 39]) (h1 := (zq47 gs T i)) (body_of cfx_mixed cfx_call zz (rnd := none) (fi := 0) (k := 0) (n := 40) (n0 := 1) (ans := [zT, Ans.val 0 (V.raw (.agg { toList := [.int .i64 (at' gs (i.toNat * 5)), .int .i64 (at' gs (i.toNat * 5 + 1)), .int .i64 (at' gs (i.toNat * 5 + 2)), .int .i64 (at' gs (i.toNat * 5 + 3)), .bool (nz gs (i.toNat * 5 + 4))] })), Ans.ret (V.raw (.bool (M.btw (at' gs (i.toNat * 5)) 0 4194304))), zF, Ans.ret (V.raw (.bool (M.btw (at' gs (i.toNat * 5 + 1)) 0 4194304))), zF, zF, Ans.ret (V.raw (.bool (M.btw (at' gs (i.toNat * 5 + 2)) 2 32768))), zF, zT, zT, zT, zT, zT]) (cons := [(decide (i < (n : Int)) = true), (0 ≤ i ∧ i < (n : Int)), (loadRow cfx 66 (mix [false, false, false, false, true] gs) (i.toNat * 5) = some (V.raw (.agg { toList := [.int .i64 (at' gs (i.toNat * 5)), .int .i64 (at' gs (i.toNat * 5 + 1)), .int .i64 (at' gs (i.toNat * 5 + 2)), .int .i64 (at' gs (i.toNat * 5 + 3)), .bool (nz gs (i.toNat * 5 + 4))] }))), ((zq56 gs i)), ((!M.btw (at' gs (i.toNat * 5)) 0 4194304) = false), ((zq54 gs i)), zN, ((!M.btw (at' gs (i.toNat * 5 + 1)) 0 4194304) = false), ((zq55 gs i)), zN, ((!M.btw (at' gs (i.toNat * 5 + 2)) 2 32768) = true), zY, zY, zY, zY]) zk
    ⟨zdo, (by omega), (load_mix 5 0 (by kernel_rfl) (by kernel_rfl) (Nat.le_of_ble_eq_true rfl) (by show _ % 5 = 0; omega) (Nat.le_of_ble_eq_true rfl) (by omega)), (lnBetween _ _ _), zdf, (lnBetween _ _ _), rfl, zdf, (lnBetween _ _ _), rfl, zdf, rfl, rfl, rfl, rfl, trivial⟩ (Nat.le_of_ble_eq_true rfl) (Nat.le_of_ble_eq_true rfl) noRnd (noRanges (by kernel_rfl))) zt3
def hf_T4 (gs : List Int) (n : Nat) (T : Nat) (i : Int) : List V := (zq30 n i)
def hf_H4 (gs : List Int) (n : Nat) (T : Nat) (i : Int) : Heap := [bkG gs T]
theorem hf_4 (gs : List Int) (n : Nat) (T : Nat) (hz : n * 5 ≤ gs.length) (hn : n ≤ 20) (i : Int) (hi1 : 0 ≤ i) (f0 : i < (n : Int)) (f1 : M.btw (at' gs (i.toNat * 5)) 0 4194304 = true) (f2 : M.btw (at' gs (i.toNat * 5 + 1)) 0 4194304 = true) (f3 : M.btw (at' gs (i.toNat * 5 + 2)) 2 32768 = true) (f4 : ¬(at' gs (i.toNat * 5 + 2)).tmod (2 : Int) = (0 : Int)) : Runs cfx 0 1 none (loopOf cfx.P 74 0) (hf_T gs n T i) (hf_H gs n T i) (Ex.ret) (hf_T4 gs n T i) (hf_H4 gs n T i) := by
  refine Runs.post (t1 := [.slo 0 n, uV, V.raw (.bool false), uV, .ptr 1 0, .slo 0 n, iV (n : Int), iV i, V.raw (.bool (decide (i < (n : Int)))), V.ptr 0 (i.toNat * 5), V.raw (.agg { toList := [.int .i64 (at' gs (i.toNat * 5)), .int .i64 (at' gs (i.toNat * 5 + 1)), .int .i64 (at' gs (i.toNat * 5 + 2)), .int .i64 (at' gs (i.toNat * 5 + 3)), .bool (nz gs (i.toNat * 5 + 4))] }), .ptr 1 0, iV (at' gs (i.toNat * 5)), V.raw (.bool (M.btw (at' gs (i.toNat * 5)) 0 4194304)), V.raw (.bool !M.btw (at' gs (i.toNat * 5)) 0 4194304), V.lit false, .ptr 1 1, iV (at' gs (i.toNat * 5 + 1)), V.raw (.bool (M.btw (at' gs (i.toNat * 5 + 1)) 0 4194304)), V.raw (.bool !M.btw (at' gs (i.toNat * 5 + 1)) 0 4194304), V.raw (.bool !M.btw (at' gs (i.toNat * 5 + 1)) 0 4194304), V.lit false, .ptr 1 2, iV (at' gs (i.toNat * 5 + 2)), V.raw (.bool (M.btw (at' gs (i.toNat * 5 + 2)) 2 32768)), V.raw (.bool !M.btw (at' gs (i.toNat * 5 + 2)) 2 32768), V.raw (.bool !M.btw (at' gs (i.toNat * 5 + 2)) 2 32768), V.lit false, .ptr 1 2, iV (at' gs (i.toNat * 5 + 2)), iV ((at' gs (i.toNat * 5 + 2)).tmod 2), V.raw (.bool !decide ((at' gs (i.toNat * 5 + 2)).tmod (2 : Int) = (0 : Int))), V.raw (.bool !decide ((at' gs (i.toNat * 5 + 2)).tmod (2 : Int) = (0 : Int))), V.lit true, uV, uV, uV, uV, V.raw (.bool true), .any 39]) (h1 := (zq47 gs T i)) (body_of cfx_mixed cfx_call zz (rnd := none) (fi := 0) (k := 0) (n := 40) (n0 := 1) (ans := [zT, Ans.val 0 (V.raw (.agg { toList := [.int .i64 (at' gs (i.toNat * 5)), .int .i64 (at' gs (i.toNat * 5 + 1)), .int .i64 (at' gs (i.toNat * 5 + 2)), .int .i64 (at' gs (i.toNat * 5 + 3)), .bool (nz gs (i.toNat * 5 + 4))] })), Ans.ret (V.raw (.bool (M.btw (at' gs (i.toNat * 5)) 0 4194304))), zF, Ans.ret (V.raw (.bool (M.btw (at' gs (i.toNat * 5 + 1)) 0 4194304))), zF, zF, Ans.ret (V.raw (.bool (M.btw (at' gs (i.toNat * 5 + 2)) 2 32768))), zF, zF, zF, zT, zT, zT]) (cons := [(decide (i < (n : Int)) = true), (0 ≤ i ∧ i < (n : Int)), (loadRow cfx 66 (mix [false, false, false, false, true] gs) (i.toNat * 5) = some (V.raw (.agg { toList := [.int .i64 (at' gs (i.toNat * 5)), .int .i64 (at' gs (i.toNat * 5 + 1)), .int .i64 (at' gs (i.toNat * 5 + 2)), .int .i64 (at' gs (i.toNat * 5 + 3)), .bool (nz gs (i.toNat * 5 + 4))] }))), ((zq56 gs i)), ((!M.btw (at' gs (i.toNat * 5)) 0 4194304) = false), ((zq54 gs i)), zN, ((!M.btw (at' gs (i.toNat * 5 + 1)) 0 4194304) = false), ((zq55 gs i)), zN, ((!M.btw (at' gs (i.toNat * 5 + 2)) 2 32768) = false), ((2 : Int) ≠ (0 : Int)), zN, ((!decide ((at' gs (i.toNat * 5 + 2)).tmod (2 : Int) = (0 : Int))) = true), zY, zY]) zk
    ⟨zdo, (by omega), (load_mix 5 0 (by kernel_rfl) (by kernel_rfl) (Nat.le_of_ble_eq_true rfl) (by show _ % 5 = 0; omega) (Nat.le_of_ble_eq_true rfl) (by omega)), (lnBetween _ _ _), zdf, (lnBetween _ _ _), rfl, zdf, (lnBetween _ _ _), rfl, zdf, zds, rfl, zdf, rfl, rfl, trivial⟩ (Nat.le_of_ble_eq_true rfl) (Nat.le_of_ble_eq_true rfl) noRnd (noRanges (by kernel_rfl))) zt3
def hf_T5 (gs : List Int) (n : Nat) (T : Nat) (i : Int) : List V := (zq30 n i)
def hf_H5 (gs : List Int) (n : Nat) (T : Nat) (i : Int) : Heap := [bkG gs T]
theorem hf_5 (gs : List Int) (n : Nat) (T : Nat) (hz : n * 5 ≤ gs.length) (hn : n ≤ 20) (i : Int) (hi1 : 0 ≤ i) (f0 : i < (n : Int)) (f1 : M.btw (at' gs (i.toNat * 5)) 0 4194304 = true) (f2 : M.btw (at' gs (i.toNat * 5 + 1)) 0 4194304 = true) (f3 : M.btw (at' gs (i.toNat * 5 + 2)) 2 32768 = true) (f4 : (at' gs (i.toNat * 5 + 2)).tmod (2 : Int) = (0 : Int)) (f5 : M.btw (at' gs (i.toNat * 5 + 3)) 1 8192 = false) : Runs cfx 0 1 none (loopOf cfx.P 74 0) (hf_T gs n T i) (hf_H gs n T i) (Ex.ret) (hf_T5 gs n T i) (hf_H5 gs n T i) := by
  refine Runs.post (t1 := [.slo 0 n, uV, V.raw (.bool false), uV, .ptr 1 0, .slo 0 n, iV (n : Int), iV i, V.raw (.bool (decide (i < (n : Int)))), V.ptr 0 (i.toNat * 5), V.raw (.agg { toList := [.int .i64 (at' gs (i.toNat * 5)), .int .i64 (at' gs (i.toNat * 5 + 1)), .int .i64 (at' gs (i.toNat * 5 + 2)), .int .i64 (at' gs (i.toNat * 5 + 3)), .bool (nz gs (i.toNat * 5 + 4))] }), .ptr 1 0, iV (at' gs (i.toNat * 5)), V.raw (.bool (M.btw (at' gs (i.toNat * 5)) 0 4194304)), V.raw (.bool !M.btw (at' gs (i.toNat * 5)) 0 4194304), V.lit false, .ptr 1 1, iV (at' gs (i.toNat * 5 + 1)), V.raw (.bool (M.btw (at' gs (i.toNat * 5 + 1)) 0 4194304)), V.raw (.bool !M.btw (at' gs (i.toNat * 5 + 1)) 0 4194304), V.raw (.bool !M.btw (at' gs (i.toNat * 5 + 1)) 0 4194304), V.lit false, .ptr 1 2, iV (at' gs (i.toNat * 5 + 2)), V.raw (.bool (M.btw (at' gs (i.toNat * 5 + 2)) 2 32768)), V.raw (.bool !M.btw (at' gs (i.toNat * 5 + 2)) 2 32768), V.raw (.bool !M.btw (at' gs (i.toNat * 5 + 2)) 2 32768), V.lit false, .ptr 1 2, iV (at' gs (i.toNat * 5 + 2)), iV ((at' gs (i.toNat * 5 + 2)).tmod 2), V.raw (.bool !decide ((at' gs (i.toNat * 5 + 2)).tmod (2 : Int) = (0 : Int))), V.raw (.bool !decide ((at' gs (i.toNat * 5 + 2)).tmod (2 : Int) = (0 : Int))), V.lit false, .ptr 1 3, iV (at' gs (i.toNat * 5 + 3)), V.raw (.bool (M.btw (at' gs (i.toNat * 5 + 3)) 1 8192)), V.raw (.bool !M.btw (at' gs (i.toNat * 5 + 3)) 1 8192), V.raw (.bool !M.btw (at' gs (i.toNat * 5 + 3)) 1 8192), .any 39]) (h1 := (zq47 gs T i)) (body_of cfx_mixed cfx_call zz (rnd := none) (fi := 0) (k := 0) (n := 40) (n0 := 1) (ans := [zT, Ans.val 0 (V.raw (.agg { toList := [.int .i64 (at' gs (i.toNat * 5)), .int .i64 (at' gs (i.toNat * 5 + 1)), .int .i64 (at' gs (i.toNat * 5 + 2)), .int .i64 (at' gs (i.toNat * 5 + 3)), .bool (nz gs (i.toNat * 5 + 4))] })), Ans.ret (V.raw (.bool (M.btw (at' gs (i.toNat * 5)) 0 4194304))), zF, Ans.ret (V.raw (.bool (M.btw (at' gs (i.toNat * 5 + 1)) 0 4194304))), zF, zF, Ans.ret (V.raw (.bool (M.btw (at' gs (i.toNat * 5 + 2)) 2 32768))), zF, zF, zF, zF, Ans.ret (V.raw (.bool (M.btw (at' gs (i.toNat * 5 + 3)) 1 8192))), zF, zT]) (cons := [(decide (i < (n : Int)) = true), (0 ≤ i ∧ i < (n : Int)), (loadRow cfx 66 (mix [false, false, false, false, true] gs) (i.toNat * 5) = some (V.raw (.agg { toList := [.int .i64 (at' gs (i.toNat * 5)), .int .i64 (at' gs (i.toNat * 5 + 1)), .int .i64 (at' gs (i.toNat * 5 + 2)), .int .i64 (at' gs (i.toNat * 5 + 3)), .bool (nz gs (i.toNat * 5 + 4))] }))), ((zq56 gs i)), ((!M.btw (at' gs (i.toNat * 5)) 0 4194304) = false), ((zq54 gs i)), zN, ((!M.btw (at' gs (i.toNat * 5 + 1)) 0 4194304) = false), ((zq55 gs i)), zN, ((!M.btw (at' gs (i.toNat * 5 + 2)) 2 32768) = false), ((2 : Int) ≠ (0 : Int)), zN, ((!decide ((at' gs (i.toNat * 5 + 2)).tmod (2 : Int) = (0 : Int))) = false), (Ret cfx 83 [iV (at' gs (i.toNat * 5 + 3)), iV 1, iV 8192] (V.raw (.bool (M.btw (at' gs (i.toNat * 5 + 3)) 1 8192)))), zN, ((!M.btw (at' gs (i.toNat * 5 + 3)) 1 8192) = true)]) zk
    ⟨zdo, (by omega), (load_mix 5 0 (by kernel_rfl) (by kernel_rfl) (Nat.le_of_ble_eq_true rfl) (by show _ % 5 = 0; omega) (Nat.le_of_ble_eq_true rfl) (by omega)), (lnBetween _ _ _), zdf, (lnBetween _ _ _), rfl, zdf, (lnBetween _ _ _), rfl, zdf, zds, rfl, zdf, (lnBetween _ _ _), rfl, zdf, trivial⟩ (Nat.le_of_ble_eq_true rfl) (Nat.le_of_ble_eq_true rfl) noRnd (noRanges (by kernel_rfl))) zt3
theorem hf_6 (gs : List Int) (n : Nat) (T : Nat) (hz : n * 5 ≤ gs.length) (hn : n ≤ 20) (i : Int) (hi1 : 0 ≤ i) (f0 : i < (n : Int)) (f1 : M.btw (at' gs (i.toNat * 5)) 0 4194304 = true) (f2 : M.btw (at' gs (i.toNat * 5 + 1)) 0 4194304 = true) (f3 : M.btw (at' gs (i.toNat * 5 + 2)) 2 32768 = true) (f4 : (at' gs (i.toNat * 5 + 2)).tmod (2 : Int) = (0 : Int)) (f5 : M.btw (at' gs (i.toNat * 5 + 3)) 1 8192 = true) : Runs cfx 0 1 none (loopOf cfx.P 74 0) (hf_T gs n T i) (hf_H gs n T i) (Ex.normal) (hf_T gs n T (i + 1)) (hf_H gs n T (i + 1)) := by
  refine Runs.post (t1 := [.slo 0 n, uV, V.raw (.bool false), uV, .ptr 1 0, .slo 0 n, iV (n : Int), iV (i + 1), V.raw (.bool (decide (i < (n : Int)))), V.ptr 0 (i.toNat * 5), V.raw (.agg { toList := [.int .i64 (at' gs (i.toNat * 5)), .int .i64 (at' gs (i.toNat * 5 + 1)), .int .i64 (at' gs (i.toNat * 5 + 2)), .int .i64 (at' gs (i.toNat * 5 + 3)), .bool (nz gs (i.toNat * 5 + 4))] }), .ptr 1 0, iV (at' gs (i.toNat * 5)), V.raw (.bool (M.btw (at' gs (i.toNat * 5)) 0 4194304)), V.raw (.bool !M.btw (at' gs (i.toNat * 5)) 0 4194304), V.lit false, .ptr 1 1, iV (at' gs (i.toNat * 5 + 1)), V.raw (.bool (M.btw (at' gs (i.toNat * 5 + 1)) 0 4194304)), V.raw (.bool !M.btw (at' gs (i.toNat * 5 + 1)) 0 4194304), V.raw (.bool !M.btw (at' gs (i.toNat * 5 + 1)) 0 4194304), V.lit false, .ptr 1 2, iV (at' gs (i.toNat * 5 + 2)), V.raw (.bool (M.btw (at' gs (i.toNat * 5 + 2)) 2 32768)), V.raw (.bool !M.btw (at' gs (i.toNat * 5 + 2)) 2 32768), V.raw (.bool !M.btw (at' gs (i.toNat * 5 + 2)) 2 32768), V.lit false, .ptr 1 2, iV (at' gs (i.toNat * 5 + 2)), iV ((at' gs (i.toNat * 5 + 2)).tmod 2), V.raw (.bool !decide ((at' gs (i.toNat * 5 + 2)).tmod (2 : Int) = (0 : Int))), V.raw (.bool !decide ((at' gs (i.toNat * 5 + 2)).tmod (2 : Int) = (0 : Int))), V.lit false, .ptr 1 3, iV (at' gs (i.toNat * 5 + 3)), V.raw (.bool (M.btw (at' gs (i.toNat * 5 + 3)) 1 8192)), V.raw (.bool !M.btw (at' gs (i.toNat * 5 + 3)) 1 8192), V.raw (.bool !M.btw (at' gs (i.toNat * 5 + 3)) 1 8192), iV (i + 1)]) (h1 := (zq47 gs T i)) (body_of cfx_mixed cfx_call zz (rnd := none) (fi := 0) (k := 0) (n := 40) (n0 := 1) (ans := [zT, Ans.val 0 (V.raw (.agg { toList := [.int .i64 (at' gs (i.toNat * 5)), .int .i64 (at' gs (i.toNat * 5 + 1)), .int .i64 (at' gs (i.toNat * 5 + 2)), .int .i64 (at' gs (i.toNat * 5 + 3)), .bool (nz gs (i.toNat * 5 + 4))] })), Ans.ret (V.raw (.bool (M.btw (at' gs (i.toNat * 5)) 0 4194304))), zF, Ans.ret (V.raw (.bool (M.btw (at' gs (i.toNat * 5 + 1)) 0 4194304))), zF, zF, Ans.ret (V.raw (.bool (M.btw (at' gs (i.toNat * 5 + 2)) 2 32768))), zF, zF, zF, zF, Ans.ret (V.raw (.bool (M.btw (at' gs (i.toNat * 5 + 3)) 1 8192))), zF, zF]) (cons := [(decide (i < (n : Int)) = true), (0 ≤ i ∧ i < (n : Int)), (loadRow cfx 66 (mix [false, false, false, false, true] gs) (i.toNat * 5) = some (V.raw (.agg { toList := [.int .i64 (at' gs (i.toNat * 5)), .int .i64 (at' gs (i.toNat * 5 + 1)), .int .i64 (at' gs (i.toNat * 5 + 2)), .int .i64 (at' gs (i.toNat * 5 + 3)), .bool (nz gs (i.toNat * 5 + 4))] }))), ((zq56 gs i)), ((!M.btw (at' gs (i.toNat * 5)) 0 4194304) = false), ((zq54 gs i)), zN, ((!M.btw (at' gs (i.toNat * 5 + 1)) 0 4194304) = false), ((zq55 gs i)), zN, ((!M.btw (at' gs (i.toNat * 5 + 2)) 2 32768) = false), ((2 : Int) ≠ (0 : Int)), zN, ((!decide ((at' gs (i.toNat * 5 + 2)).tmod (2 : Int) = (0 : Int))) = false), (Ret cfx 83 [iV (at' gs (i.toNat * 5 + 3)), iV 1, iV 8192] (V.raw (.bool (M.btw (at' gs (i.toNat * 5 + 3)) 1 8192)))), zN, ((!M.btw (at' gs (i.toNat * 5 + 3)) 1 8192) = false), (inR IntKind.i64 (i + 1))]) zk
    ⟨zdo, (by omega), (load_mix 5 0 (by kernel_rfl) (by kernel_rfl) (Nat.le_of_ble_eq_true rfl) (by show _ % 5 = 0; omega) (Nat.le_of_ble_eq_true rfl) (by omega)), (lnBetween _ _ _), zdf, (lnBetween _ _ _), rfl, zdf, (lnBetween _ _ _), rfl, zdf, zds, rfl, zdf, (lnBetween _ _ _), rfl, zdf, inR_i64 (by omega) (by omega), trivial⟩ (Nat.le_of_ble_eq_true rfl) (Nat.le_of_ble_eq_true rfl) noRnd (noRanges (by kernel_rfl))) zt3
def hf_T7 (gs : List Int) (n : Nat) (T : Nat) (i : Int) : List V := (zq30 n i)
def hf_H7 (gs : List Int) (n : Nat) (T : Nat) (i : Int) : Heap := [bkG gs T]
theorem hf_7 (gs : List Int) (n : Nat) (T : Nat) (hz : n * 5 ≤ gs.length) (hn : n ≤ 20) (i : Int) (hi1 : 0 ≤ i) (f0 : ¬i < (n : Int)) : Runs cfx 0 1 none (loopOf cfx.P 74 0) (hf_T gs n T i) (hf_H gs n T i) (Ex.exit 0) (hf_T7 gs n T i) (hf_H7 gs n T i) := by
  refine Runs.post (t1 := (catV [.slo 0 n, uV, V.raw (.bool false), uV, .any 4, .slo 0 n, iV (n : Int), iV i, V.raw (.bool (decide (i < (n : Int))))] (anyR 9 31 []))) (h1 := [bkG gs T]) (body_of cfx_mixed cfx_call zz (rnd := none) (fi := 0) (k := 0) (n := 40) (n0 := 1) (ans := [zF]) (cons := [(decide (i < (n : Int)) = false)]) zk
    ⟨zdo, trivial⟩ zb zb noRnd (noRanges zk)) zt7
abbrev zq19 (nm : ByteArray) (w : Int) (g : Int) (y : Int) (n : Nat) (a : Int) (b : Int) (r : Int) (p : Int) (q : Int) (k : Nat) (i : Int) : List V := (catV [lwA nm w g y n a b r p q k, .ptr 2 0, V.raw (.bool false), uV] (anyR 4 31 (catV [.slo 1 k, iV (k : Int), iV i] (anyR 38 20 []))))
def cf_T (nm : ByteArray) (gs cs : List Int) (n k : Nat) (T U : Nat) (w g y a b r p q : Int) (i : Int) : List V := (zq19 nm w g y n a b r p q k i)
def cf_H (nm : ByteArray) (gs cs : List Int) (n k : Nat) (T U : Nat) (w g y a b r p q : Int) (i : Int) : Heap := [bkG gs T, bkI cs U, bkW nm w g y n a b r p q k]
def cf_T1 (nm : ByteArray) (gs cs : List Int) (n k : Nat) (T U : Nat) (w g y a b r p q : Int) (i : Int) : List V := (zq19 nm w g y n a b r p q k i)
def cf_H1 (nm : ByteArray) (gs cs : List Int) (n k : Nat) (T U : Nat) (w g y a b r p q : Int) (i : Int) : Heap := [bkG gs T, bkI cs U, bkW nm w g y n a b r p q k]
abbrev zq48 (gs : List Int) (T : Nat) (cs : List Int) (U : Nat) (nm : ByteArray) (w : Int) (g : Int) (y : Int) (n : Nat) (a : Int) (b : Int) (r : Int) (p : Int) (q : Int) (k : Nat) (i : Int) : Heap := [bkG gs T, bkI cs U, bkW nm w g y n a b r p q k, some (.cells [iV (at' cs (i.toNat * 3)), iV (at' cs (i.toNat * 3 + 1)), iV (at' cs (i.toNat * 3 + 2))] 118 .rw)]
abbrev zq58 (cs : List Int) (i : Int) : Prop := Ret cfx 83 [iV (at' cs (i.toNat * 3)), iV 0, iV 65536] (V.raw (.bool (M.btw (at' cs (i.toNat * 3)) 0 65536)))
theorem cf_1 (nm : ByteArray) (gs cs : List Int) (n k : Nat) (T U : Nat) (w g y a b r p q : Int) (hz : k * 3 ≤ cs.length) (hp : 1 ≤ p ∧ p ≤ 16) (hq : 1 ≤ q ∧ q ≤ 16) (hk : (k : Int) = p * q) (hk3 : k ≤ 256) (i : Int) (hi1 : 0 ≤ i) (f0 : i < (k : Int)) (f1 : M.btw (at' cs (i.toNat * 3)) 0 65536 = false) : Runs cfx 0 3 none (loopOf cfx.P 75 0) (cf_T nm gs cs n k T U w g y a b r p q i) (cf_H nm gs cs n k T U w g y a b r p q i) (Ex.ret) (cf_T1 nm gs cs n k T U w g y a b r p q i) (cf_H1 nm gs cs n k T U w g y a b r p q i) := by
  refine Runs.post (t1 := (catV [lwA nm w g y n a b r p q k, .ptr 2 0, V.raw (.bool false), uV, .ptr 3 0] (anyR 5 30 [.slo 1 k, iV (k : Int), iV i, V.raw (.bool (decide (i < (k : Int)))), V.ptr 1 (i.toNat * 3), (rowV cs (i.toNat * 3) 3), .ptr 3 0, iV (at' cs (i.toNat * 3)), V.raw (.bool (M.btw (at' cs (i.toNat * 3)) 0 65536)), V.raw (.bool !M.btw (at' cs (i.toNat * 3)) 0 65536), V.lit true, uV, uV, uV, uV, V.raw (.bool true), V.lit true, uV, uV, uV, uV, V.raw (.bool true), .any 57]))) (h1 := (zq48 gs T cs U nm w g y n a b r p q k i)) (body_of cfx_mixed cfx_call zz (rnd := none) (fi := 0) (k := 0) (n := 40) (n0 := 3) (ans := [zT, Ans.val 1 ((rowV cs (i.toNat * 3) 3)), Ans.ret (V.raw (.bool (M.btw (at' cs (i.toNat * 3)) 0 65536))), zT, zT, zT, zT, zT]) (cons := [(decide (i < (k : Int)) = true), (0 ≤ i ∧ i < (k : Int)), (loadRow cfx 118 (ints cs) (i.toNat * 3) = some ((rowV cs (i.toNat * 3) 3))), ((zq58 cs i)), ((!M.btw (at' cs (i.toNat * 3)) 0 65536) = true), zY, zY, zY, zY]) zk
    ⟨zdo, zo, (load_agg 3 zk zk zb zo), (lnBetween _ _ _), zdf, rfl, rfl, rfl, rfl, trivial⟩ zb zb noRnd (noRanges zk)) zt4
def cf_T2 (nm : ByteArray) (gs cs : List Int) (n k : Nat) (T U : Nat) (w g y a b r p q : Int) (i : Int) : List V := (zq19 nm w g y n a b r p q k i)
def cf_H2 (nm : ByteArray) (gs cs : List Int) (n k : Nat) (T U : Nat) (w g y a b r p q : Int) (i : Int) : Heap := [bkG gs T, bkI cs U, bkW nm w g y n a b r p q k]
abbrev zq57 (cs : List Int) (i : Int) : Prop := Ret cfx 97 [iV (at' cs (i.toNat * 3 + 1))] (V.raw (.bool (M.btw (at' cs (i.toNat * 3 + 1)) (-4096 : Int) 4096)))
theorem cf_2 (nm : ByteArray) (gs cs : List Int) (n k : Nat) (T U : Nat) (w g y a b r p q : Int) (hz : k * 3 ≤ cs.length) (hp : 1 ≤ p ∧ p ≤ 16) (hq : 1 ≤ q ∧ q ≤ 16) (hk : (k : Int) = p * q) (hk3 : k ≤ 256) (i : Int) (hi1 : 0 ≤ i) (f0 : i < (k : Int)) (f1 : M.btw (at' cs (i.toNat * 3)) 0 65536 = true) (f2 : M.btw (at' cs (i.toNat * 3 + 1)) (-4096 : Int) 4096 = false) : Runs cfx 0 3 none (loopOf cfx.P 75 0) (cf_T nm gs cs n k T U w g y a b r p q i) (cf_H nm gs cs n k T U w g y a b r p q i) (Ex.ret) (cf_T2 nm gs cs n k T U w g y a b r p q i) (cf_H2 nm gs cs n k T U w g y a b r p q i) := by
  refine Runs.post (t1 := (catV [lwA nm w g y n a b r p q k, .ptr 2 0, V.raw (.bool false), uV, .ptr 3 0] (anyR 5 30 [.slo 1 k, iV (k : Int), iV i, V.raw (.bool (decide (i < (k : Int)))), V.ptr 1 (i.toNat * 3), (rowV cs (i.toNat * 3) 3), .ptr 3 0, iV (at' cs (i.toNat * 3)), V.raw (.bool (M.btw (at' cs (i.toNat * 3)) 0 65536)), V.raw (.bool !M.btw (at' cs (i.toNat * 3)) 0 65536), V.lit false, .ptr 3 1, iV (at' cs (i.toNat * 3 + 1)), V.raw (.bool (M.btw (at' cs (i.toNat * 3 + 1)) (-4096 : Int) 4096)), V.raw (.bool !M.btw (at' cs (i.toNat * 3 + 1)) (-4096 : Int) 4096), V.raw (.bool !M.btw (at' cs (i.toNat * 3 + 1)) (-4096 : Int) 4096), V.lit true, uV, uV, uV, uV, V.raw (.bool true), .any 57]))) (h1 := (zq48 gs T cs U nm w g y n a b r p q k i)) (body_of cfx_mixed cfx_call zz (rnd := none) (fi := 0) (k := 0) (n := 40) (n0 := 3) (ans := [zT, Ans.val 1 ((rowV cs (i.toNat * 3) 3)), Ans.ret (V.raw (.bool (M.btw (at' cs (i.toNat * 3)) 0 65536))), zF, Ans.ret (V.raw (.bool (M.btw (at' cs (i.toNat * 3 + 1)) (-4096 : Int) 4096))), zF, zT, zT, zT]) (cons := [(decide (i < (k : Int)) = true), (0 ≤ i ∧ i < (k : Int)), (loadRow cfx 118 (ints cs) (i.toNat * 3) = some ((rowV cs (i.toNat * 3) 3))), ((zq58 cs i)), ((!M.btw (at' cs (i.toNat * 3)) 0 65536) = false), ((zq57 cs i)), zN, ((!M.btw (at' cs (i.toNat * 3 + 1)) (-4096 : Int) 4096) = true), zY, zY]) zk
    ⟨zdo, zo, (load_agg 3 zk zk zb zo), (lnBetween _ _ _), zdf, (lnIsSlope _), rfl, zdf, rfl, rfl, trivial⟩ zb zb noRnd (noRanges zk)) zt4
def cf_T3 (nm : ByteArray) (gs cs : List Int) (n k : Nat) (T U : Nat) (w g y a b r p q : Int) (i : Int) : List V := (zq19 nm w g y n a b r p q k i)
def cf_H3 (nm : ByteArray) (gs cs : List Int) (n k : Nat) (T U : Nat) (w g y a b r p q : Int) (i : Int) : Heap := [bkG gs T, bkI cs U, bkW nm w g y n a b r p q k]
theorem cf_3 (nm : ByteArray) (gs cs : List Int) (n k : Nat) (T U : Nat) (w g y a b r p q : Int) (hz : k * 3 ≤ cs.length) (hp : 1 ≤ p ∧ p ≤ 16) (hq : 1 ≤ q ∧ q ≤ 16) (hk : (k : Int) = p * q) (hk3 : k ≤ 256) (i : Int) (hi1 : 0 ≤ i) (f0 : i < (k : Int)) (f1 : M.btw (at' cs (i.toNat * 3)) 0 65536 = true) (f2 : M.btw (at' cs (i.toNat * 3 + 1)) (-4096 : Int) 4096 = true) (f3 : M.btw (at' cs (i.toNat * 3 + 2)) (-4096 : Int) 4096 = false) : Runs cfx 0 3 none (loopOf cfx.P 75 0) (cf_T nm gs cs n k T U w g y a b r p q i) (cf_H nm gs cs n k T U w g y a b r p q i) (Ex.ret) (cf_T3 nm gs cs n k T U w g y a b r p q i) (cf_H3 nm gs cs n k T U w g y a b r p q i) := by
  refine Runs.post (t1 := (catV [lwA nm w g y n a b r p q k, .ptr 2 0, V.raw (.bool false), uV, .ptr 3 0] (anyR 5 30 [.slo 1 k, iV (k : Int), iV i, V.raw (.bool (decide (i < (k : Int)))), V.ptr 1 (i.toNat * 3), (rowV cs (i.toNat * 3) 3), .ptr 3 0, iV (at' cs (i.toNat * 3)), V.raw (.bool (M.btw (at' cs (i.toNat * 3)) 0 65536)), V.raw (.bool !M.btw (at' cs (i.toNat * 3)) 0 65536), V.lit false, .ptr 3 1, iV (at' cs (i.toNat * 3 + 1)), V.raw (.bool (M.btw (at' cs (i.toNat * 3 + 1)) (-4096 : Int) 4096)), V.raw (.bool !M.btw (at' cs (i.toNat * 3 + 1)) (-4096 : Int) 4096), V.raw (.bool !M.btw (at' cs (i.toNat * 3 + 1)) (-4096 : Int) 4096), V.lit false, .ptr 3 2, iV (at' cs (i.toNat * 3 + 2)), V.raw (.bool (M.btw (at' cs (i.toNat * 3 + 2)) (-4096 : Int) 4096)), V.raw (.bool !M.btw (at' cs (i.toNat * 3 + 2)) (-4096 : Int) 4096), V.raw (.bool !M.btw (at' cs (i.toNat * 3 + 2)) (-4096 : Int) 4096), .any 57]))) (h1 := (zq48 gs T cs U nm w g y n a b r p q k i)) (body_of cfx_mixed cfx_call zz (rnd := none) (fi := 0) (k := 0) (n := 40) (n0 := 3) (ans := [zT, Ans.val 1 ((rowV cs (i.toNat * 3) 3)), Ans.ret (V.raw (.bool (M.btw (at' cs (i.toNat * 3)) 0 65536))), zF, Ans.ret (V.raw (.bool (M.btw (at' cs (i.toNat * 3 + 1)) (-4096 : Int) 4096))), zF, zF, Ans.ret (V.raw (.bool (M.btw (at' cs (i.toNat * 3 + 2)) (-4096 : Int) 4096))), zF, zT]) (cons := [(decide (i < (k : Int)) = true), (0 ≤ i ∧ i < (k : Int)), (loadRow cfx 118 (ints cs) (i.toNat * 3) = some ((rowV cs (i.toNat * 3) 3))), ((zq58 cs i)), ((!M.btw (at' cs (i.toNat * 3)) 0 65536) = false), ((zq57 cs i)), zN, ((!M.btw (at' cs (i.toNat * 3 + 1)) (-4096 : Int) 4096) = false), (Ret cfx 97 [iV (at' cs (i.toNat * 3 + 2))] (V.raw (.bool (M.btw (at' cs (i.toNat * 3 + 2)) (-4096 : Int) 4096)))), zN, ((!M.btw (at' cs (i.toNat * 3 + 2)) (-4096 : Int) 4096) = true)]) zk
    ⟨zdo, zo, (load_agg 3 zk zk zb zo), (lnBetween _ _ _), zdf, (lnIsSlope _), rfl, zdf, (lnIsSlope _), rfl, zdf, trivial⟩ zb zb noRnd (noRanges zk)) zt4
theorem cf_4 (nm : ByteArray) (gs cs : List Int) (n k : Nat) (T U : Nat) (w g y a b r p q : Int) (hz : k * 3 ≤ cs.length) (hp : 1 ≤ p ∧ p ≤ 16) (hq : 1 ≤ q ∧ q ≤ 16) (hk : (k : Int) = p * q) (hk3 : k ≤ 256) (i : Int) (hi1 : 0 ≤ i) (f0 : i < (k : Int)) (f1 : M.btw (at' cs (i.toNat * 3)) 0 65536 = true) (f2 : M.btw (at' cs (i.toNat * 3 + 1)) (-4096 : Int) 4096 = true) (f3 : M.btw (at' cs (i.toNat * 3 + 2)) (-4096 : Int) 4096 = true) : Runs cfx 0 3 none (loopOf cfx.P 75 0) (cf_T nm gs cs n k T U w g y a b r p q i) (cf_H nm gs cs n k T U w g y a b r p q i) (Ex.normal) (cf_T nm gs cs n k T U w g y a b r p q (i + 1)) (cf_H nm gs cs n k T U w g y a b r p q (i + 1)) := by
  refine Runs.post (t1 := (catV [lwA nm w g y n a b r p q k, .ptr 2 0, V.raw (.bool false), uV, .ptr 3 0] (anyR 5 30 [.slo 1 k, iV (k : Int), iV (i + 1), V.raw (.bool (decide (i < (k : Int)))), V.ptr 1 (i.toNat * 3), (rowV cs (i.toNat * 3) 3), .ptr 3 0, iV (at' cs (i.toNat * 3)), V.raw (.bool (M.btw (at' cs (i.toNat * 3)) 0 65536)), V.raw (.bool !M.btw (at' cs (i.toNat * 3)) 0 65536), V.lit false, .ptr 3 1, iV (at' cs (i.toNat * 3 + 1)), V.raw (.bool (M.btw (at' cs (i.toNat * 3 + 1)) (-4096 : Int) 4096)), V.raw (.bool !M.btw (at' cs (i.toNat * 3 + 1)) (-4096 : Int) 4096), V.raw (.bool !M.btw (at' cs (i.toNat * 3 + 1)) (-4096 : Int) 4096), V.lit false, .ptr 3 2, iV (at' cs (i.toNat * 3 + 2)), V.raw (.bool (M.btw (at' cs (i.toNat * 3 + 2)) (-4096 : Int) 4096)), V.raw (.bool !M.btw (at' cs (i.toNat * 3 + 2)) (-4096 : Int) 4096), V.raw (.bool !M.btw (at' cs (i.toNat * 3 + 2)) (-4096 : Int) 4096), iV (i + 1)]))) (h1 := (zq48 gs T cs U nm w g y n a b r p q k i)) (body_of cfx_mixed cfx_call zz (rnd := none) (fi := 0) (k := 0) (n := 40) (n0 := 3) (ans := [zT, Ans.val 1 ((rowV cs (i.toNat * 3) 3)), Ans.ret (V.raw (.bool (M.btw (at' cs (i.toNat * 3)) 0 65536))), zF, Ans.ret (V.raw (.bool (M.btw (at' cs (i.toNat * 3 + 1)) (-4096 : Int) 4096))), zF, zF, Ans.ret (V.raw (.bool (M.btw (at' cs (i.toNat * 3 + 2)) (-4096 : Int) 4096))), zF, zF]) (cons := [(decide (i < (k : Int)) = true), (0 ≤ i ∧ i < (k : Int)), (loadRow cfx 118 (ints cs) (i.toNat * 3) = some ((rowV cs (i.toNat * 3) 3))), ((zq58 cs i)), ((!M.btw (at' cs (i.toNat * 3)) 0 65536) = false), ((zq57 cs i)), zN, ((!M.btw (at' cs (i.toNat * 3 + 1)) (-4096 : Int) 4096) = false), (Ret cfx 97 [iV (at' cs (i.toNat * 3 + 2))] (V.raw (.bool (M.btw (at' cs (i.toNat * 3 + 2)) (-4096 : Int) 4096)))), zN, ((!M.btw (at' cs (i.toNat * 3 + 2)) (-4096 : Int) 4096) = false), (inR IntKind.i64 (i + 1))]) zk
    ⟨zdo, zo, (load_agg 3 zk zk zb zo), (lnBetween _ _ _), zdf, (lnIsSlope _), rfl, zdf, (lnIsSlope _), rfl, zdf, inR_i64 zo zo, trivial⟩ zb zb noRnd (noRanges zk)) zt4
def cf_T5 (nm : ByteArray) (gs cs : List Int) (n k : Nat) (T U : Nat) (w g y a b r p q : Int) (i : Int) : List V := (zq19 nm w g y n a b r p q k i)
def cf_H5 (nm : ByteArray) (gs cs : List Int) (n k : Nat) (T U : Nat) (w g y a b r p q : Int) (i : Int) : Heap := [bkG gs T, bkI cs U, bkW nm w g y n a b r p q k]
theorem cf_5 (nm : ByteArray) (gs cs : List Int) (n k : Nat) (T U : Nat) (w g y a b r p q : Int) (hz : k * 3 ≤ cs.length) (hp : 1 ≤ p ∧ p ≤ 16) (hq : 1 ≤ q ∧ q ≤ 16) (hk : (k : Int) = p * q) (hk3 : k ≤ 256) (i : Int) (hi1 : 0 ≤ i) (f0 : ¬i < (k : Int)) : Runs cfx 0 3 none (loopOf cfx.P 75 0) (cf_T nm gs cs n k T U w g y a b r p q i) (cf_H nm gs cs n k T U w g y a b r p q i) (Ex.exit 0) (cf_T5 nm gs cs n k T U w g y a b r p q i) (cf_H5 nm gs cs n k T U w g y a b r p q i) := by
  refine Runs.post (t1 := (catV [lwA nm w g y n a b r p q k, .ptr 2 0, V.raw (.bool false), uV] (anyR 4 31 (catV [.slo 1 k, iV (k : Int), iV i, V.raw (.bool (decide (i < (k : Int))))] (anyR 39 19 []))))) (h1 := [bkG gs T, bkI cs U, bkW nm w g y n a b r p q k]) (body_of cfx_mixed cfx_call zz (rnd := none) (fi := 0) (k := 0) (n := 40) (n0 := 3) (ans := [zF]) (cons := [(decide (i < (k : Int)) = false)]) zk
    ⟨zdo, trivial⟩ zb zb noRnd (noRanges zk)) zt4
variable (nm : ByteArray) (gs cs : List Int) (n k : Nat) (T U : Nat) (w g y a b r p q : Int)
def M.cellsB (cs : List Int) (k : Nat) : Bool := (List.range k).all (M.cellZ cs)
theorem cf_loop (nm : ByteArray) (gs cs : List Int) (n k : Nat) (T U : Nat) (w g y a b r p q : Int) (hz : k * 3 ≤ cs.length) (hp : 1 ≤ p ∧ p ≤ 16) (hq : 1 ≤ q ∧ q ≤ 16) (hk : (k : Int) = p * q) (hk3 : k ≤ 256) : (M.cellsB cs k = true ∧ Runs cfx 0 3 none (.loop (loopOf cfx.P 75 0)) (cf_T nm gs cs n k T U w g y a b r p q 0) (cf_H nm gs cs n k T U w g y a b r p q 0) (.exit 0) (cf_T5 nm gs cs n k T U w g y a b r p q k) (cf_H5 nm gs cs n k T U w g y a b r p q k)) ∨ (M.cellsB cs k = false ∧ ∃ i : Nat, Runs cfx 0 3 none (.loop (loopOf cfx.P 75 0)) (cf_T nm gs cs n k T U w g y a b r p q 0) (cf_H nm gs cs n k T U w g y a b r p q 0) (.ret) (cf_T1 nm gs cs n k T U w g y a b r p q i) (cf_H1 nm gs cs n k T U w g y a b r p q i)) := by
  rcases upto_find (c := cfx) (lim := 0) (n0 := 3) (x := loopOf cfx.P 75 0) noRnd (M.cellZ cs) (fun i : Nat => cf_T nm gs cs n k T U w g y a b r p q i) (fun i : Nat => cf_H nm gs cs n k T U w g y a b r p q i) k (fun i : Nat => cf_T1 nm gs cs n k T U w g y a b r p q i) (fun i : Nat => cf_H1 nm gs cs n k T U w g y a b r p q i) (e := .exit 0) (e1 := .ret) (by simp) (by simp)
    (fun i hi hg => by
      simp only [M.cellZ, M.cellB, Bool.and_eq_true] at hg
      obtain ⟨⟨q1, q2⟩, q3⟩ := hg
      exact cf_4 nm gs cs n k T U w g y a b r p q hz hp hq hk hk3 i zo zo q1 q2 q3)
    (fun i hi hg => by
      cases q1 : M.btw (at' cs (i * 3)) 0 65536 with
      | false => exact cf_1 nm gs cs n k T U w g y a b r p q hz hp hq hk hk3 i zo zo q1
      | true =>
      cases q2 : M.btw (at' cs (i * 3 + 1)) (-4096) 4096 with
      | false => exact cf_2 nm gs cs n k T U w g y a b r p q hz hp hq hk hk3 i zo zo q1 q2
      | true =>
      cases q3 : M.btw (at' cs (i * 3 + 2)) (-4096) 4096 with
      | false => exact cf_3 nm gs cs n k T U w g y a b r p q hz hp hq hk hk3 i zo zo q1 q2 q3
      | true => simp [M.cellZ, M.cellB, q1, q2, q3] at hg)
    (cf_5 nm gs cs n k T U w g y a b r p q hz hp hq hk hk3 k zo zo) with ⟨h1, h2⟩ | ⟨h1, i, hi, h2, h3, h4⟩
  · exact .inl ⟨h1, h2⟩
  · exact .inr ⟨h1, i, h4⟩
abbrev zq5 (nm : ByteArray) (w : Int) (g : Int) (y : Int) (n : Nat) (a : Int) (b : Int) (r : Int) (p : Int) (q : Int) (k : Nat) : List V := (catV [lwA nm w g y n a b r p q k, .ptr 2 0, V.raw (.bool false), uV, uV, .ptr 2 8, iV p, V.raw (.bool (decide (p < 1))), V.lit false, .ptr 2 8, iV p, V.raw (.bool (decide (16 < p))), V.raw (.bool (decide (16 < p))), V.lit false, .ptr 2 9, iV q, V.raw (.bool (decide (q < 1))), V.raw (.bool (decide (q < 1))), V.lit false, .ptr 2 9, iV q, V.raw (.bool (decide (16 < q))), V.raw (.bool (decide (16 < q))), V.lit false, .ptr 2 10, .slo 1 k, iV (k : Int), .ptr 2 8, iV p, .ptr 2 9, iV q, iV (p * q), V.raw (.bool !decide ((k : Int) = p * q)), V.raw (.bool !decide ((k : Int) = p * q)), .ptr 2 10, .slo 1 k, iV (k : Int), iV 0] (repU 20 []))
abbrev zq17 (nm : ByteArray) (w : Int) (g : Int) (y : Int) (n : Nat) (a : Int) (b : Int) (r : Int) (p : Int) (q : Int) (k : Nat) : List V := (catV [lwA nm w g y n a b r p q k, .ptr 2 0, V.raw (.bool false), uV] (anyR 4 31 (catV [.slo 1 k, iV (k : Int), iV (k : Int)] (anyR 38 20 []))))
theorem cellsFit_ok (nm : ByteArray) (gs cs : List Int) (n k : Nat) (T U : Nat) (w g y a b r p q : Int) (hz : k * 3 ≤ cs.length) (hp : 1 ≤ p ∧ p ≤ 16) (hq : 1 ≤ q ∧ q ≤ 16) (hk : (k : Int) = p * q) (hk3 : k ≤ 256) (hR : Runs cfx 0 3 none (.loop (loopOf cfx.P 75 0)) (cf_T nm gs cs n k T U w g y a b r p q 0) (cf_H nm gs cs n k T U w g y a b r p q 0) (.exit 0) (cf_T5 nm gs cs n k T U w g y a b r p q k) (cf_H5 nm gs cs n k T U w g y a b r p q k))  : Meets cfx 0 75 [lwA nm w g y n a b r p q k] [bkG gs T, bkI cs U] (V.raw (.bool true)) [bkG gs T, bkI cs U] := by
  refine Meets.post (mev (ans := [Ans.go, zF, zF, zF, zF, zF, zF, zF, zF, zF, Ans.loop (Ex.exit 0) (zq17 nm w g y n a b r p q k) [bkG gs T, bkI cs U, bkW nm w g y n a b r p q k]]) (v := V.raw (.bool true)) (h' := [bkG gs T, bkI cs U, bkW nm w g y n a b r p q k]) (cons := [(decide (p < 1) = false), zN, (decide (16 < p) = false), zN, (decide (q < 1) = false), zN, (decide (16 < q) = false), (inR IntKind.i64 (p * q)), zN, ((!decide ((k : Int) = p * q)) = false), (Runs cfx 0 3 none (.loop (loopOf cfx.P 75 0)) (zq5 nm w g y n a b r p q k) [bkG gs T, bkI cs U, bkW nm w g y n a b r p q k] (Ex.exit 0) (zq17 nm w g y n a b r p q k) [bkG gs T, bkI cs U, bkW nm w g y n a b r p q k])]) zk
    ⟨zdo, rfl, zdo, rfl, zdo, rfl, zdo, inR_i64 zo zo, rfl, zdf, (by
      refine Runs.pre (fun b e => by cases e) (fun RT RH => ?_) (hR)
      exact reshape2 (lim := 0) 3 (t := (zq5 nm w g y n a b r p q k)) (h := [bkG gs T, bkI cs U, bkW nm w g y n a b r p q k]) cfx_G rfl [] zk zk zdr RT RH), trivial⟩) zk zt0
abbrev zq18 (nm : ByteArray) (w : Int) (g : Int) (y : Int) (n : Nat) (a : Int) (b : Int) (r : Int) (p : Int) (q : Int) (k : Nat) (i : Nat) : List V := (catV [lwA nm w g y n a b r p q k, .ptr 2 0, V.raw (.bool false), uV] (anyR 4 31 (catV [.slo 1 k, iV (k : Int), iV (i : Int)] (anyR 38 20 []))))
theorem cellsFit_bad (nm : ByteArray) (gs cs : List Int) (n k : Nat) (T U : Nat) (w g y a b r p q : Int) (hz : k * 3 ≤ cs.length) (hp : 1 ≤ p ∧ p ≤ 16) (hq : 1 ≤ q ∧ q ≤ 16) (hk : (k : Int) = p * q) (hk3 : k ≤ 256) (i : Nat) (hR : Runs cfx 0 3 none (.loop (loopOf cfx.P 75 0)) (cf_T nm gs cs n k T U w g y a b r p q 0) (cf_H nm gs cs n k T U w g y a b r p q 0) (.ret) (cf_T1 nm gs cs n k T U w g y a b r p q i) (cf_H1 nm gs cs n k T U w g y a b r p q i))  : Meets cfx 0 75 [lwA nm w g y n a b r p q k] [bkG gs T, bkI cs U] (V.raw (.bool false)) [bkG gs T, bkI cs U] := by
  refine Meets.post (mev (ans := [Ans.go, zF, zF, zF, zF, zF, zF, zF, zF, zF, Ans.loop Ex.ret (zq18 nm w g y n a b r p q k i) [bkG gs T, bkI cs U, bkW nm w g y n a b r p q k]]) (v := V.raw (.bool false)) (h' := [bkG gs T, bkI cs U, bkW nm w g y n a b r p q k]) (cons := [(decide (p < 1) = false), zN, (decide (16 < p) = false), zN, (decide (q < 1) = false), zN, (decide (16 < q) = false), (inR IntKind.i64 (p * q)), zN, ((!decide ((k : Int) = p * q)) = false), (Runs cfx 0 3 none (.loop (loopOf cfx.P 75 0)) (zq5 nm w g y n a b r p q k) [bkG gs T, bkI cs U, bkW nm w g y n a b r p q k] (Ex.ret) (zq18 nm w g y n a b r p q k i) [bkG gs T, bkI cs U, bkW nm w g y n a b r p q k])]) zk
    ⟨zdo, rfl, zdo, rfl, zdo, rfl, zdo, inR_i64 zo zo, rfl, zdf, (by
      refine Runs.pre (fun b e => by cases e) (fun RT RH => ?_) (hR)
      exact reshape2 (lim := 0) 3 (t := (zq5 nm w g y n a b r p q k)) (h := [bkG gs T, bkI cs U, bkW nm w g y n a b r p q k]) cfx_G rfl [] zk zk zdr RT RH), trivial⟩) zk zt0
theorem cellsFit_no0 (h1 : p < 1)  : Meets cfx 0 75 [lwA nm w g y n a b r p q k] [bkG gs T, bkI cs U] (V.raw (.bool false)) [bkG gs T, bkI cs U] := by
  refine Meets.post (mev (ans := [Ans.go, zT, zT, zT, zT, zT, zT, zT, zT, zT]) (v := V.raw (.bool false)) (h' := [bkG gs T, bkI cs U, bkW nm w g y n a b r p q k]) (cons := [(decide (p < 1) = true), zY, zY, zY, zY, zY, zY, zY, zY]) zk
    ⟨zdo, rfl, rfl, rfl, rfl, rfl, rfl, rfl, rfl, trivial⟩) zk zt0
theorem cellsFit_no1 (h1 : ¬ p < 1) (h2 : 16 < p)  : Meets cfx 0 75 [lwA nm w g y n a b r p q k] [bkG gs T, bkI cs U] (V.raw (.bool false)) [bkG gs T, bkI cs U] := by
  refine Meets.post (mev (ans := [Ans.go, zF, zF, zT, zT, zT, zT, zT, zT, zT]) (v := V.raw (.bool false)) (h' := [bkG gs T, bkI cs U, bkW nm w g y n a b r p q k]) (cons := [(decide (p < 1) = false), zN, (decide (16 < p) = true), zY, zY, zY, zY, zY, zY]) zk
    ⟨zdo, rfl, zdo, rfl, rfl, rfl, rfl, rfl, rfl, trivial⟩) zk zt0
theorem cellsFit_no2 (h1 : ¬ p < 1) (h2 : ¬ 16 < p) (h3 : q < 1)  : Meets cfx 0 75 [lwA nm w g y n a b r p q k] [bkG gs T, bkI cs U] (V.raw (.bool false)) [bkG gs T, bkI cs U] := by
  refine Meets.post (mev (ans := [Ans.go, zF, zF, zF, zF, zT, zT, zT, zT, zT]) (v := V.raw (.bool false)) (h' := [bkG gs T, bkI cs U, bkW nm w g y n a b r p q k]) (cons := [(decide (p < 1) = false), zN, (decide (16 < p) = false), zN, (decide (q < 1) = true), zY, zY, zY, zY]) zk
    ⟨zdo, rfl, zdo, rfl, zdo, rfl, rfl, rfl, rfl, trivial⟩) zk zt0
theorem cellsFit_no3 (h1 : ¬ p < 1) (h2 : ¬ 16 < p) (h3 : ¬ q < 1) (h4 : 16 < q)  : Meets cfx 0 75 [lwA nm w g y n a b r p q k] [bkG gs T, bkI cs U] (V.raw (.bool false)) [bkG gs T, bkI cs U] := by
  refine Meets.post (mev (ans := [Ans.go, zF, zF, zF, zF, zF, zF, zT, zT, zT]) (v := V.raw (.bool false)) (h' := [bkG gs T, bkI cs U, bkW nm w g y n a b r p q k]) (cons := [(decide (p < 1) = false), zN, (decide (16 < p) = false), zN, (decide (q < 1) = false), zN, (decide (16 < q) = true), zY, zY]) zk
    ⟨zdo, rfl, zdo, rfl, zdo, rfl, zdo, rfl, rfl, trivial⟩) zk zt0
theorem cellsFit_no4 (nm : ByteArray) (gs cs : List Int) (n k : Nat) (T U : Nat) (w g y a b r p q : Int) (h1 : ¬ p < 1) (h2 : ¬ 16 < p) (h3 : ¬ q < 1) (h4 : ¬ 16 < q) (h0 : p * q ≤ 256 ∧ 0 ≤ p * q) (h5 : ¬ (k : Int) = p * q)  : Meets cfx 0 75 [lwA nm w g y n a b r p q k] [bkG gs T, bkI cs U] (V.raw (.bool false)) [bkG gs T, bkI cs U] := by
  refine Meets.post (mev (ans := [Ans.go, zF, zF, zF, zF, zF, zF, zF, zF, zT]) (v := V.raw (.bool false)) (h' := [bkG gs T, bkI cs U, bkW nm w g y n a b r p q k]) (cons := [(decide (p < 1) = false), zN, (decide (16 < p) = false), zN, (decide (q < 1) = false), zN, (decide (16 < q) = false), (inR IntKind.i64 (p * q)), zN, ((!decide ((k : Int) = p * q)) = true)]) zk
    ⟨zdo, rfl, zdo, rfl, zdo, rfl, zdo, inR_i64 zo zo, rfl, zdf, trivial⟩) zk zt0
def M.gridB (cs : List Int) (k : Nat) (p q : Int) : Bool := decide (1 ≤ p) && decide (p ≤ 16) && decide (1 ≤ q) && decide (q ≤ 16) && decide ((k : Int) = p * q) && M.cellsB cs k
theorem cellsFit_all (hz : k * 3 ≤ cs.length) : Meets cfx 0 75 [lwA nm w g y n a b r p q k] [bkG gs T, bkI cs U] (.raw (.bool (M.gridB cs k p q))) [bkG gs T, bkI cs U] := by
  unfold M.gridB
  by_cases h1 : p < 1
  · rw [decide_eq_false (show ¬ 1 ≤ p by omega)]
    exact cellsFit_no0 nm gs cs n k T U w g y a b r p q h1
  by_cases h2 : 16 < p
  · rw [decide_eq_false (show ¬ p ≤ 16 by omega)]
    simp only [Bool.and_false, Bool.false_and]
    exact cellsFit_no1 nm gs cs n k T U w g y a b r p q h1 h2
  by_cases h3 : q < 1
  · rw [decide_eq_false (show ¬ 1 ≤ q by omega)]
    simp only [Bool.and_false, Bool.false_and]
    exact cellsFit_no2 nm gs cs n k T U w g y a b r p q h1 h2 h3
  by_cases h4 : 16 < q
  · rw [decide_eq_false (show ¬ q ≤ 16 by omega)]
    simp only [Bool.and_false, Bool.false_and]
    exact cellsFit_no3 nm gs cs n k T U w g y a b r p q h1 h2 h3 h4
  have h0 : p * q ≤ 256 ∧ 0 ≤ p * q := by
    have a1 : p * q ≤ 16 * 16 := Int.mul_le_mul zo zo zo zo
    have a2 : 0 ≤ p * q := Int.mul_nonneg zo zo
    omega
  by_cases h5 : (k : Int) = p * q
  · rw [decide_eq_true (show 1 ≤ p by omega), decide_eq_true (show p ≤ 16 by omega), decide_eq_true (show 1 ≤ q by omega), decide_eq_true (show q ≤ 16 by omega), decide_eq_true h5]
    simp only [Bool.true_and]
    rcases cf_loop nm gs cs n k T U w g y a b r p q hz zo zo h5 zo with ⟨e1, e2⟩ | ⟨e1, i, e2⟩
    · rw [e1]; exact cellsFit_ok nm gs cs n k T U w g y a b r p q hz (by omega) (by omega) h5 (by omega) e2
    · rw [e1]; exact cellsFit_bad nm gs cs n k T U w g y a b r p q hz (by omega) (by omega) h5 (by omega) i e2
  · rw [decide_eq_false h5]
    simp only [Bool.and_false, Bool.false_and]
    exact cellsFit_no4 nm gs cs n k T U w g y a b r p q h1 h2 h3 h4 h0 h5
theorem lnWires_1 (x y g w : Int) (b : Bool) (hx : M.hoopB x y g w = true) (f0 : b = true) : Ret cfx 77 [.raw (.agg #[.int .i64 x, .int .i64 y, .int .i64 g, .int .i64 w, .bool b])] (V.raw (.agg { toList := [.int .i64 (x - 0), .int .i64 (y - (g.tdiv 2 + w)), .int .i64 w, .int .i64 (x + 0), .int .i64 (y + (g.tdiv 2 + w)), .int .i64 w] })) := by
  obtain ⟨q1, q2, q3, q4, q5⟩ := M.hoop_facts hx
  exact fnE (ans := [Ans.go, Ans.go, zT]) (cons := [((2 : Int) ≠ (0 : Int)), (inR IntKind.i64 (g.tdiv 2)), (inR IntKind.i64 (g.tdiv 2 + w)), (b = true), (inR IntKind.i64 (x - 0)), (inR IntKind.i64 (y - (g.tdiv 2 + w))), (inR IntKind.i64 (x + 0)), (inR IntKind.i64 (y + (g.tdiv 2 + w)))]) zk rfl rfl
    ⟨zds, inR_i64 zo zo, inR_i64 zo zo, zdf, inR_i64 zo zo, inR_i64 zo zo, inR_i64 zo zo, inR_i64 zo zo, trivial⟩
theorem lnWires_2 (x y g w : Int) (b : Bool) (hx : M.hoopB x y g w = true) (f0 : b = false) : Ret cfx 77 [.raw (.agg #[.int .i64 x, .int .i64 y, .int .i64 g, .int .i64 w, .bool b])] (V.raw (.agg { toList := [.int .i64 (x - (g.tdiv 2 + w)), .int .i64 (y - 0), .int .i64 w, .int .i64 (x + (g.tdiv 2 + w)), .int .i64 (y + 0), .int .i64 w] })) := by
  obtain ⟨q1, q2, q3, q4, q5⟩ := M.hoop_facts hx
  exact fnE (ans := [Ans.go, Ans.go, zF]) (cons := [((2 : Int) ≠ (0 : Int)), (inR IntKind.i64 (g.tdiv 2)), (inR IntKind.i64 (g.tdiv 2 + w)), (b = false), (inR IntKind.i64 (x - (g.tdiv 2 + w))), (inR IntKind.i64 (y - 0)), (inR IntKind.i64 (x + (g.tdiv 2 + w))), (inR IntKind.i64 (y + 0))]) zk rfl rfl
    ⟨zds, inR_i64 zo zo, inR_i64 zo zo, zdf, inR_i64 zo zo, inR_i64 zo zo, inR_i64 zo zo, inR_i64 zo zo, trivial⟩
theorem lnWires (x y g w : Int) (b : Bool) (hx : M.hoopB x y g w = true) : Ret cfx 77 [.raw (.agg #[.int .i64 x, .int .i64 y, .int .i64 g, .int .i64 w, .bool b])] (.raw (.agg #[.int .i64 (M.wA b x (g.tdiv 2 + w)), .int .i64 (M.wA (!b) y (g.tdiv 2 + w)), .int .i64 w, .int .i64 (M.wB b x (g.tdiv 2 + w)), .int .i64 (M.wB (!b) y (g.tdiv 2 + w)), .int .i64 w])) := by
  obtain ⟨q1, q2, q3, q4, q5⟩ := M.hoop_facts hx
  by_cases f0 : b = true
  ·
    have e : (.raw (.agg #[.int .i64 (M.wA b x (g.tdiv 2 + w)), .int .i64 (M.wA (!b) y (g.tdiv 2 + w)), .int .i64 w, .int .i64 (M.wB b x (g.tdiv 2 + w)), .int .i64 (M.wB (!b) y (g.tdiv 2 + w)), .int .i64 w]) : V) = V.raw (.agg { toList := [.int .i64 (x - 0), .int .i64 (y - (g.tdiv 2 + w)), .int .i64 w, .int .i64 (x + 0), .int .i64 (y + (g.tdiv 2 + w)), .int .i64 w] }) := by (simp_all [M.wA, M.wB])
    rw [e]
    exact lnWires_1 x y g w b hx f0
  ·
    replace f0 : b = false := by simpa using f0
    have e : (.raw (.agg #[.int .i64 (M.wA b x (g.tdiv 2 + w)), .int .i64 (M.wA (!b) y (g.tdiv 2 + w)), .int .i64 w, .int .i64 (M.wB b x (g.tdiv 2 + w)), .int .i64 (M.wB (!b) y (g.tdiv 2 + w)), .int .i64 w]) : V) = V.raw (.agg { toList := [.int .i64 (x - (g.tdiv 2 + w)), .int .i64 (y - 0), .int .i64 w, .int .i64 (x + (g.tdiv 2 + w)), .int .i64 (y + 0), .int .i64 w] }) := by (simp_all [M.wA, M.wB])
    rw [e]
    exact lnWires_2 x y g w b hx f0
def po_T (nm : ByteArray) (gs cs : List Int) (n k : Nat) (T U : Nat) (w g y a b r p q : Int) (i : Int) (ps : List Int) (m : Nat) : List V := (catV [lwA nm w g y n a b r p q k, .ptr 2 0, V.raw (Value.slice none 0 0), V.slo 4 m] (anyR 4 10 (catV [.slo 0 n, iV (n : Int), iV i] (anyR 17 18 []))))
def po_H (nm : ByteArray) (gs cs : List Int) (n k : Nat) (T U : Nat) (w g y a b r p q : Int) (i : Int) (ps : List Int) (m : Nat) : Heap := [bkG gs T, bkI cs U, bkW nm w g y n a b r p q k, none, some (.cells (ints ps) 46 (Own.row 3))]
abbrev zq16 (gs : List Int) (i : Int) : List V := [iV (M.wA (nz gs (i.toNat * 5 + 4)) (at' gs (i.toNat * 5)) ((at' gs (i.toNat * 5 + 2)).tdiv 2 + at' gs (i.toNat * 5 + 3))), iV (M.wA (!nz gs (i.toNat * 5 + 4)) (at' gs (i.toNat * 5 + 1)) ((at' gs (i.toNat * 5 + 2)).tdiv 2 + at' gs (i.toNat * 5 + 3))), iV (at' gs (i.toNat * 5 + 3)), iV (M.wB (nz gs (i.toNat * 5 + 4)) (at' gs (i.toNat * 5)) ((at' gs (i.toNat * 5 + 2)).tdiv 2 + at' gs (i.toNat * 5 + 3))), iV (M.wB (!nz gs (i.toNat * 5 + 4)) (at' gs (i.toNat * 5 + 1)) ((at' gs (i.toNat * 5 + 2)).tdiv 2 + at' gs (i.toNat * 5 + 3))), iV (at' gs (i.toNat * 5 + 3))]
theorem po_1 (nm : ByteArray) (gs cs : List Int) (n k : Nat) (T U : Nat) (w g y a b r p q : Int) (hz : n * 5 ≤ gs.length) (hn : n ≤ 20) (i : Int) (ps : List Int) (m : Nat) (hi1 : 0 ≤ i) (hp : ps.length = m * 3) (hm : m ≤ 100) (hg : i < n → M.hoopB (at' gs (i.toNat * 5)) (at' gs (i.toNat * 5 + 1)) (at' gs (i.toNat * 5 + 2)) (at' gs (i.toNat * 5 + 3)) = true) (f0 : i < (n : Int)) : Runs cfx 0 4 none (loopOf cfx.P 38 0) (po_T nm gs cs n k T U w g y a b r p q i ps m) (po_H nm gs cs n k T U w g y a b r p q i ps m) (Ex.normal) (po_T nm gs cs n k T U w g y a b r p q (i + 1) (ps ++ [M.wA (nz gs (i.toNat * 5 + 4)) (at' gs (i.toNat * 5)) ((at' gs (i.toNat * 5 + 2)).tdiv 2 + at' gs (i.toNat * 5 + 3)), M.wA (!nz gs (i.toNat * 5 + 4)) (at' gs (i.toNat * 5 + 1)) ((at' gs (i.toNat * 5 + 2)).tdiv 2 + at' gs (i.toNat * 5 + 3)), at' gs (i.toNat * 5 + 3), M.wB (nz gs (i.toNat * 5 + 4)) (at' gs (i.toNat * 5)) ((at' gs (i.toNat * 5 + 2)).tdiv 2 + at' gs (i.toNat * 5 + 3)), M.wB (!nz gs (i.toNat * 5 + 4)) (at' gs (i.toNat * 5 + 1)) ((at' gs (i.toNat * 5 + 2)).tdiv 2 + at' gs (i.toNat * 5 + 3)), at' gs (i.toNat * 5 + 3)]) (m + 1 + 1)) (po_H nm gs cs n k T U w g y a b r p q (i + 1) (ps ++ [M.wA (nz gs (i.toNat * 5 + 4)) (at' gs (i.toNat * 5)) ((at' gs (i.toNat * 5 + 2)).tdiv 2 + at' gs (i.toNat * 5 + 3)), M.wA (!nz gs (i.toNat * 5 + 4)) (at' gs (i.toNat * 5 + 1)) ((at' gs (i.toNat * 5 + 2)).tdiv 2 + at' gs (i.toNat * 5 + 3)), at' gs (i.toNat * 5 + 3), M.wB (nz gs (i.toNat * 5 + 4)) (at' gs (i.toNat * 5)) ((at' gs (i.toNat * 5 + 2)).tdiv 2 + at' gs (i.toNat * 5 + 3)), M.wB (!nz gs (i.toNat * 5 + 4)) (at' gs (i.toNat * 5 + 1)) ((at' gs (i.toNat * 5 + 2)).tdiv 2 + at' gs (i.toNat * 5 + 3)), at' gs (i.toNat * 5 + 3)]) (m + 1 + 1)) := by
  refine Runs.post (t1 := (catV [lwA nm w g y n a b r p q k, .ptr 2 0, V.raw (Value.slice none 0 0), .slo 8 (m + 1 + 1), .any 4, .ptr 5 0, .ptr 6 0] (anyR 7 7 [.slo 0 n, iV (n : Int), iV (i + 1), V.raw (.bool (decide (i < (n : Int)))), V.ptr 0 (i.toNat * 5), V.raw (.agg { toList := [.int .i64 (at' gs (i.toNat * 5)), .int .i64 (at' gs (i.toNat * 5 + 1)), .int .i64 (at' gs (i.toNat * 5 + 2)), .int .i64 (at' gs (i.toNat * 5 + 3)), .bool (nz gs (i.toNat * 5 + 4))] }), V.raw (.agg { toList := [.int .i64 (at' gs (i.toNat * 5)), .int .i64 (at' gs (i.toNat * 5 + 1)), .int .i64 (at' gs (i.toNat * 5 + 2)), .int .i64 (at' gs (i.toNat * 5 + 3)), .bool (nz gs (i.toNat * 5 + 4))] }), V.raw (.agg { toList := [.int .i64 (M.wA (nz gs (i.toNat * 5 + 4)) (at' gs (i.toNat * 5)) ((at' gs (i.toNat * 5 + 2)).tdiv 2 + at' gs (i.toNat * 5 + 3))), .int .i64 (M.wA (!nz gs (i.toNat * 5 + 4)) (at' gs (i.toNat * 5 + 1)) ((at' gs (i.toNat * 5 + 2)).tdiv 2 + at' gs (i.toNat * 5 + 3))), .int .i64 (at' gs (i.toNat * 5 + 3)), .int .i64 (M.wB (nz gs (i.toNat * 5 + 4)) (at' gs (i.toNat * 5)) ((at' gs (i.toNat * 5 + 2)).tdiv 2 + at' gs (i.toNat * 5 + 3))), .int .i64 (M.wB (!nz gs (i.toNat * 5 + 4)) (at' gs (i.toNat * 5 + 1)) ((at' gs (i.toNat * 5 + 2)).tdiv 2 + at' gs (i.toNat * 5 + 3))), .int .i64 (at' gs (i.toNat * 5 + 3))] }), .slo 4 m, .ptr 6 0, V.raw (.agg { toList := [.int .i64 (M.wA (nz gs (i.toNat * 5 + 4)) (at' gs (i.toNat * 5)) ((at' gs (i.toNat * 5 + 2)).tdiv 2 + at' gs (i.toNat * 5 + 3))), .int .i64 (M.wA (!nz gs (i.toNat * 5 + 4)) (at' gs (i.toNat * 5 + 1)) ((at' gs (i.toNat * 5 + 2)).tdiv 2 + at' gs (i.toNat * 5 + 3))), .int .i64 (at' gs (i.toNat * 5 + 3))] }), .ptr 6 3, V.raw (.agg { toList := [.int .i64 (M.wB (nz gs (i.toNat * 5 + 4)) (at' gs (i.toNat * 5)) ((at' gs (i.toNat * 5 + 2)).tdiv 2 + at' gs (i.toNat * 5 + 3))), .int .i64 (M.wB (!nz gs (i.toNat * 5 + 4)) (at' gs (i.toNat * 5 + 1)) ((at' gs (i.toNat * 5 + 2)).tdiv 2 + at' gs (i.toNat * 5 + 3))), .int .i64 (at' gs (i.toNat * 5 + 3))] }), .slo 7 2, .slo 8 (m + 1 + 1), iV (i + 1), .any 30, .any 31, .any 32, .any 33, .any 34]))) (h1 := [bkG gs T, bkI cs U, bkW nm w g y n a b r p q k, none, none, some (.cells [iV (at' gs (i.toNat * 5)), iV (at' gs (i.toNat * 5 + 1)), iV (at' gs (i.toNat * 5 + 2)), iV (at' gs (i.toNat * 5 + 3)), V.raw (.bool (nz gs (i.toNat * 5 + 4)))] 66 .rw), some (.cells (zq16 gs i) 161 .rw), some (.cells (zq16 gs i) 46 (.row 3)), some (.cells (ints (ps ++ [M.wA (nz gs (i.toNat * 5 + 4)) (at' gs (i.toNat * 5)) ((at' gs (i.toNat * 5 + 2)).tdiv 2 + at' gs (i.toNat * 5 + 3)), M.wA (!nz gs (i.toNat * 5 + 4)) (at' gs (i.toNat * 5 + 1)) ((at' gs (i.toNat * 5 + 2)).tdiv 2 + at' gs (i.toNat * 5 + 3)), at' gs (i.toNat * 5 + 3), M.wB (nz gs (i.toNat * 5 + 4)) (at' gs (i.toNat * 5)) ((at' gs (i.toNat * 5 + 2)).tdiv 2 + at' gs (i.toNat * 5 + 3)), M.wB (!nz gs (i.toNat * 5 + 4)) (at' gs (i.toNat * 5 + 1)) ((at' gs (i.toNat * 5 + 2)).tdiv 2 + at' gs (i.toNat * 5 + 3)), at' gs (i.toNat * 5 + 3)])) 46 (.row 3))]) (body_of cfx_mixed cfx_call zz (rnd := none) (fi := 0) (k := 0) (n := 40) (n0 := 4) (ans := [zT, Ans.val 0 (V.raw (.agg { toList := [.int .i64 (at' gs (i.toNat * 5)), .int .i64 (at' gs (i.toNat * 5 + 1)), .int .i64 (at' gs (i.toNat * 5 + 2)), .int .i64 (at' gs (i.toNat * 5 + 3)), .bool (nz gs (i.toNat * 5 + 4))] })), Ans.ret (V.raw (.agg { toList := [.int .i64 (M.wA (nz gs (i.toNat * 5 + 4)) (at' gs (i.toNat * 5)) ((at' gs (i.toNat * 5 + 2)).tdiv 2 + at' gs (i.toNat * 5 + 3))), .int .i64 (M.wA (!nz gs (i.toNat * 5 + 4)) (at' gs (i.toNat * 5 + 1)) ((at' gs (i.toNat * 5 + 2)).tdiv 2 + at' gs (i.toNat * 5 + 3))), .int .i64 (at' gs (i.toNat * 5 + 3)), .int .i64 (M.wB (nz gs (i.toNat * 5 + 4)) (at' gs (i.toNat * 5)) ((at' gs (i.toNat * 5 + 2)).tdiv 2 + at' gs (i.toNat * 5 + 3))), .int .i64 (M.wB (!nz gs (i.toNat * 5 + 4)) (at' gs (i.toNat * 5 + 1)) ((at' gs (i.toNat * 5 + 2)).tdiv 2 + at' gs (i.toNat * 5 + 3))), .int .i64 (at' gs (i.toNat * 5 + 3))] })), Ans.cells 8 (ints (ps ++ [M.wA (nz gs (i.toNat * 5 + 4)) (at' gs (i.toNat * 5)) ((at' gs (i.toNat * 5 + 2)).tdiv 2 + at' gs (i.toNat * 5 + 3)), M.wA (!nz gs (i.toNat * 5 + 4)) (at' gs (i.toNat * 5 + 1)) ((at' gs (i.toNat * 5 + 2)).tdiv 2 + at' gs (i.toNat * 5 + 3)), at' gs (i.toNat * 5 + 3), M.wB (nz gs (i.toNat * 5 + 4)) (at' gs (i.toNat * 5)) ((at' gs (i.toNat * 5 + 2)).tdiv 2 + at' gs (i.toNat * 5 + 3)), M.wB (!nz gs (i.toNat * 5 + 4)) (at' gs (i.toNat * 5 + 1)) ((at' gs (i.toNat * 5 + 2)).tdiv 2 + at' gs (i.toNat * 5 + 3)), at' gs (i.toNat * 5 + 3)]))]) (cons := [(decide (i < (n : Int)) = true), (0 ≤ i ∧ i < (n : Int)), (loadRow cfx 66 (mix [false, false, false, false, true] gs) (i.toNat * 5) = some (V.raw (.agg { toList := [.int .i64 (at' gs (i.toNat * 5)), .int .i64 (at' gs (i.toNat * 5 + 1)), .int .i64 (at' gs (i.toNat * 5 + 2)), .int .i64 (at' gs (i.toNat * 5 + 3)), .bool (nz gs (i.toNat * 5 + 4))] }))), (Ret cfx 77 [V.raw (.agg { toList := [.int .i64 (at' gs (i.toNat * 5)), .int .i64 (at' gs (i.toNat * 5 + 1)), .int .i64 (at' gs (i.toNat * 5 + 2)), .int .i64 (at' gs (i.toNat * 5 + 3)), .bool (nz gs (i.toNat * 5 + 4))] })] (V.raw (.agg { toList := [.int .i64 (M.wA (nz gs (i.toNat * 5 + 4)) (at' gs (i.toNat * 5)) ((at' gs (i.toNat * 5 + 2)).tdiv 2 + at' gs (i.toNat * 5 + 3))), .int .i64 (M.wA (!nz gs (i.toNat * 5 + 4)) (at' gs (i.toNat * 5 + 1)) ((at' gs (i.toNat * 5 + 2)).tdiv 2 + at' gs (i.toNat * 5 + 3))), .int .i64 (at' gs (i.toNat * 5 + 3)), .int .i64 (M.wB (nz gs (i.toNat * 5 + 4)) (at' gs (i.toNat * 5)) ((at' gs (i.toNat * 5 + 2)).tdiv 2 + at' gs (i.toNat * 5 + 3))), .int .i64 (M.wB (!nz gs (i.toNat * 5 + 4)) (at' gs (i.toNat * 5 + 1)) ((at' gs (i.toNat * 5 + 2)).tdiv 2 + at' gs (i.toNat * 5 + 3))), .int .i64 (at' gs (i.toNat * 5 + 3))] }))), (2 ≤ 9223372036854775807), (2 * 3 ≤ List.length ((zq16 gs i) : List V)), (oneCells (List.take (2 * 3) ((zq16 gs i) : List V)) = true), (List.length ((ints ps) : List V) = m * 3), (m + 2 ≤ maxLen ∧ (m + 2) * 24 ≤ 140737488355328), (((ints ps) : List V) ++ (List.take (2 * 3) ((zq16 gs i) : List V)) = (ints (ps ++ [M.wA (nz gs (i.toNat * 5 + 4)) (at' gs (i.toNat * 5)) ((at' gs (i.toNat * 5 + 2)).tdiv 2 + at' gs (i.toNat * 5 + 3)), M.wA (!nz gs (i.toNat * 5 + 4)) (at' gs (i.toNat * 5 + 1)) ((at' gs (i.toNat * 5 + 2)).tdiv 2 + at' gs (i.toNat * 5 + 3)), at' gs (i.toNat * 5 + 3), M.wB (nz gs (i.toNat * 5 + 4)) (at' gs (i.toNat * 5)) ((at' gs (i.toNat * 5 + 2)).tdiv 2 + at' gs (i.toNat * 5 + 3)), M.wB (!nz gs (i.toNat * 5 + 4)) (at' gs (i.toNat * 5 + 1)) ((at' gs (i.toNat * 5 + 2)).tdiv 2 + at' gs (i.toNat * 5 + 3)), at' gs (i.toNat * 5 + 3)]))), (inR IntKind.i64 (i + 1))]) zk
    ⟨zdo, (by omega), (load_mix 5 0 (by kernel_rfl) (by kernel_rfl) (Nat.le_of_ble_eq_true rfl) (by show _ % 5 = 0; omega) (Nat.le_of_ble_eq_true rfl) (by omega)), (lnWires _ _ _ _ _ (hg (by omega))), zds, zdl, (by first | exact ones_take _ _ | rfl), zdl, (by unfold maxLen; constructor <;> omega), (by first | rfl | exact app_lit _ _ rfl | exact app_row _ _ _ | exact row_row0 _ _ | exact app_row0 _ _), inR_i64 (by omega) (by omega), trivial⟩ (Nat.le_of_ble_eq_true rfl) (Nat.le_of_ble_eq_true rfl) noRnd (noRanges (by kernel_rfl))) (fun RT RH => reshape2 (lim := 0) 4 cfx_G rfl [some 8] (by kernel_rfl) (by kernel_rfl) (by exact (ents_raw (mix_all _ _) rfl rfl (ents_raw (ints_all _) rfl rfl (ents_say rfl rfl rfl rfl (ents_none (ents_raw (ints_all _) rfl rfl (ents_nil))))))) RT RH)
def po_T2 (nm : ByteArray) (gs cs : List Int) (n k : Nat) (T U : Nat) (w g y a b r p q : Int) (i : Int) (ps : List Int) (m : Nat) : List V := (catV [lwA nm w g y n a b r p q k, .ptr 2 0, V.raw (Value.slice none 0 0), .slo 4 m] (anyR 4 10 (catV [.slo 0 n, iV (n : Int), iV i] (anyR 17 18 []))))
def po_H2 (nm : ByteArray) (gs cs : List Int) (n k : Nat) (T U : Nat) (w g y a b r p q : Int) (i : Int) (ps : List Int) (m : Nat) : Heap := [bkG gs T, bkI cs U, bkW nm w g y n a b r p q k, none, some (.cells (ints ps) 46 (.row 3))]
theorem po_2 (nm : ByteArray) (gs cs : List Int) (n k : Nat) (T U : Nat) (w g y a b r p q : Int) (hz : n * 5 ≤ gs.length) (hn : n ≤ 20) (i : Int) (ps : List Int) (m : Nat) (hi1 : 0 ≤ i) (hp : ps.length = m * 3) (hm : m ≤ 100) (hg : i < n → M.hoopB (at' gs (i.toNat * 5)) (at' gs (i.toNat * 5 + 1)) (at' gs (i.toNat * 5 + 2)) (at' gs (i.toNat * 5 + 3)) = true) (f0 : ¬i < (n : Int)) : Runs cfx 0 4 none (loopOf cfx.P 38 0) (po_T nm gs cs n k T U w g y a b r p q i ps m) (po_H nm gs cs n k T U w g y a b r p q i ps m) (Ex.exit 0) (po_T2 nm gs cs n k T U w g y a b r p q i ps m) (po_H2 nm gs cs n k T U w g y a b r p q i ps m) := by
  refine Runs.post (t1 := (catV [lwA nm w g y n a b r p q k, .ptr 2 0, V.raw (Value.slice none 0 0), .slo 4 m] (anyR 4 10 (catV [.slo 0 n, iV (n : Int), iV i, V.raw (.bool (decide (i < (n : Int))))] (anyR 18 17 []))))) (h1 := [bkG gs T, bkI cs U, bkW nm w g y n a b r p q k, none, some (.cells (ints ps) 46 (.row 3))]) (body_of cfx_mixed cfx_call zz (rnd := none) (fi := 0) (k := 0) (n := 40) (n0 := 4) (ans := [zF]) (cons := [(decide (i < (n : Int)) = false)]) zk
    ⟨zdo, trivial⟩ zb zb noRnd (noRanges zk)) (fun RT RH => reshape2 (lim := 0) 4 cfx_G rfl [some 4] zk zk (by exact (ents_raw (mix_all _ _) rfl rfl (ents_raw (ints_all _) rfl rfl (ents_say rfl rfl rfl rfl (ents_none (ents_raw (ints_all _) rfl rfl (ents_nil))))))) RT RH)
def M.hoopsB (gs : List Int) (n : Nat) : Bool := (List.range n).all (M.hoopZ gs)
theorem hf_loop (gs : List Int) (n : Nat) (T : Nat) (hz : n * 5 ≤ gs.length) (hn : n ≤ 20) : (M.hoopsB gs n = true ∧ Runs cfx 0 1 none (.loop (loopOf cfx.P 74 0)) (hf_T gs n T 0) (hf_H gs n T 0) (.exit 0) (hf_T7 gs n T n) (hf_H7 gs n T n)) ∨ (M.hoopsB gs n = false ∧ ∃ i : Nat, Runs cfx 0 1 none (.loop (loopOf cfx.P 74 0)) (hf_T gs n T 0) (hf_H gs n T 0) (.ret) (hf_T1 gs n T i) (hf_H1 gs n T i)) := by
  rcases upto_find (c := cfx) (lim := 0) (n0 := 1) (x := loopOf cfx.P 74 0) noRnd (M.hoopZ gs) (fun i : Nat => hf_T gs n T i) (fun i : Nat => hf_H gs n T i) n (fun i : Nat => hf_T1 gs n T i) (fun i : Nat => hf_H1 gs n T i) (e := .exit 0) (e1 := .ret) (by simp) (by simp)
    (fun i hi hg => by
      simp only [M.hoopZ, M.hoopB, Bool.and_eq_true, decide_eq_true_eq] at hg
      obtain ⟨⟨⟨⟨q1, q2⟩, q3⟩, q4⟩, q5⟩ := hg
      exact hf_6 gs n T hz hn i zo zo q1 q2 q3 q4 q5)
    (fun i hi hg => by
      cases q1 : M.btw (at' gs (i * 5)) 0 4194304 with
      | false => exact hf_1 gs n T hz hn i zo zo q1
      | true =>
      cases q2 : M.btw (at' gs (i * 5 + 1)) 0 4194304 with
      | false => exact hf_2 gs n T hz hn i zo zo q1 q2
      | true =>
      cases q3 : M.btw (at' gs (i * 5 + 2)) 2 32768 with
      | false => exact hf_3 gs n T hz hn i zo zo q1 q2 q3
      | true =>
      by_cases q4 : (at' gs (i * 5 + 2)).tmod 2 = 0
      · cases q5 : M.btw (at' gs (i * 5 + 3)) 1 8192 with
        | false => exact hf_5 gs n T hz hn i zo zo q1 q2 q3 q4 q5
        | true => simp [M.hoopZ, M.hoopB, q1, q2, q3, q4, q5] at hg
      · exact hf_4 gs n T hz hn i zo zo q1 q2 q3 q4)
    (hf_7 gs n T hz hn n zo zo) with ⟨h1, h2⟩ | ⟨h1, i, hi, h2, h3, h4⟩
  · exact .inl ⟨h1, h2⟩
  · exact .inr ⟨h1, i, h4⟩
abbrev zq27 (n : Nat) : List V := (catV [.slo 0 n, uV, V.raw (.bool false), uV, .any 4, .slo 0 n, iV (n : Int), iV (n : Int)] (anyR 8 32 []))
abbrev zq44 (n : Nat) : List V := (catV [.slo 0 n, uV, V.raw (.bool false), uV, uV, .slo 0 n, iV (n : Int), iV 0] (repU 32 []))
theorem hoopsFit_ok (gs : List Int) (n : Nat) (T : Nat) (hz : n * 5 ≤ gs.length) (hn : n ≤ 20) (hR : Runs cfx 0 1 none (.loop (loopOf cfx.P 74 0)) (hf_T gs n T 0) (hf_H gs n T 0) (.exit 0) (hf_T7 gs n T n) (hf_H7 gs n T n))  : Meets cfx 0 74 [.slo 0 n] [bkG gs T] (V.raw (.bool true)) [bkG gs T] := by
  refine Meets.post (mev (ans := [Ans.go, Ans.loop (Ex.exit 0) (zq27 n) [bkG gs T]]) (v := V.raw (.bool true)) (h' := [bkG gs T]) (cons := [(Runs cfx 0 1 none (.loop (loopOf cfx.P 74 0)) (zq44 n) [bkG gs T] (Ex.exit 0) (zq27 n) [bkG gs T])]) zk
    ⟨(by
      refine Runs.pre (fun b e => by cases e) (fun RT RH => ?_) (hR)
      exact reshape2 (lim := 0) 1 (t := (zq44 n)) (h := [bkG gs T]) cfx_G rfl [] zk zk zdr RT RH), trivial⟩) zk zt7
abbrev zq28 (n : Nat) (i : Nat) : List V := (catV [.slo 0 n, uV, V.raw (.bool false), uV, .any 4, .slo 0 n, iV (n : Int), iV (i : Int)] (anyR 8 32 []))
theorem hoopsFit_bad (gs : List Int) (n : Nat) (T : Nat) (hz : n * 5 ≤ gs.length) (hn : n ≤ 20) (i : Nat) (hR : Runs cfx 0 1 none (.loop (loopOf cfx.P 74 0)) (hf_T gs n T 0) (hf_H gs n T 0) (.ret) (hf_T1 gs n T i) (hf_H1 gs n T i))  : Meets cfx 0 74 [.slo 0 n] [bkG gs T] (V.raw (.bool false)) [bkG gs T] := by
  refine Meets.post (mev (ans := [Ans.go, Ans.loop Ex.ret (zq28 n i) [bkG gs T]]) (v := V.raw (.bool false)) (h' := [bkG gs T]) (cons := [(Runs cfx 0 1 none (.loop (loopOf cfx.P 74 0)) (zq44 n) [bkG gs T] (Ex.ret) (zq28 n i) [bkG gs T])]) zk
    ⟨(by
      refine Runs.pre (fun b e => by cases e) (fun RT RH => ?_) (hR)
      exact reshape2 (lim := 0) 1 (t := (zq44 n)) (h := [bkG gs T]) cfx_G rfl [] zk zk zdr RT RH), trivial⟩) zk zt7
theorem hoopsFit_all (gs : List Int) (n : Nat) (T : Nat) (hz : n * 5 ≤ gs.length) (hn : n ≤ 20) : Meets cfx 0 74 [.slo 0 n] [bkG gs T] (.raw (.bool (M.hoopsB gs n))) [bkG gs T] := by
  rcases hf_loop gs n T hz hn with ⟨h1, h2⟩ | ⟨h1, i, h2⟩
  · rw [h1]; exact hoopsFit_ok gs n T hz hn h2
  · rw [h1]; exact hoopsFit_bad gs n T hz hn i h2
theorem M.postF_at (gs : List Int) (i j : Nat) (h : j < 6) : M.postF gs (i * 6 + j) = if j = 0 then M.wA (nz gs (i * 5 + 4)) (at' gs (i * 5)) (M.hoopD gs i) else if j = 1 then M.wA (!nz gs (i * 5 + 4)) (at' gs (i * 5 + 1)) (M.hoopD gs i) else if j = 3 then M.wB (nz gs (i * 5 + 4)) (at' gs (i * 5)) (M.hoopD gs i) else if j = 4 then M.wB (!nz gs (i * 5 + 4)) (at' gs (i * 5 + 1)) (M.hoopD gs i) else at' gs (i * 5 + 3) := by
  unfold M.postF
  rw [show (i * 6 + j) % 6 = j by omega, show (i * 6 + j) / 6 = i by omega]
theorem tab_app6 (f : Nat → Int) (n : Nat) {x0 x1 x2 x3 x4 x5 : Int} (h0 : f n = x0) (h1 : f (n + 1) = x1) (h2 : f (n + 2) = x2) (h3 : f (n + 3) = x3) (h4 : f (n + 4) = x4) (h5 : f (n + 5) = x5) : tab n f ++ [x0, x1, x2, x3, x4, x5] = tab (n + 6) f := by
  subst h0 h1 h2 h3 h4 h5
  unfold tab
  rw [List.range_add, List.map_append, List.map_map]
  rfl
theorem M.posts_app (gs : List Int) (i : Nat) : tab (i * 6) (M.postF gs) ++ [M.wA (nz gs (i * 5 + 4)) (at' gs (i * 5)) (M.hoopD gs i), M.wA (!nz gs (i * 5 + 4)) (at' gs (i * 5 + 1)) (M.hoopD gs i), at' gs (i * 5 + 3), M.wB (nz gs (i * 5 + 4)) (at' gs (i * 5)) (M.hoopD gs i), M.wB (!nz gs (i * 5 + 4)) (at' gs (i * 5 + 1)) (M.hoopD gs i), at' gs (i * 5 + 3)] = tab ((i + 1) * 6) (M.postF gs) := by
  rw [show (i + 1) * 6 = i * 6 + 6 by omega]
  exact tab_app6 _ _ (M.postF_at gs i 0 zo) (M.postF_at gs i 1 zo) (M.postF_at gs i 2 zo) (M.postF_at gs i 3 zo) (M.postF_at gs i 4 zo) (M.postF_at gs i 5 zo)
theorem po_loop (hz : n * 5 ≤ gs.length) (hn : n ≤ 20) (hg : M.hoopsB gs n = true) : Runs cfx 0 4 none (.loop (loopOf cfx.P 38 0)) (po_T nm gs cs n k T U w g y a b r p q 0 [] 0) (po_H nm gs cs n k T U w g y a b r p q 0 [] 0) (.exit 0) (po_T2 nm gs cs n k T U w g y a b r p q n (tab (n * 6) (M.postF gs)) (2 * n)) (po_H2 nm gs cs n k T U w g y a b r p q n (tab (n * 6) (M.postF gs)) (2 * n)) :=
  upto (c := cfx) (lim := 0) (n0 := 4) (x := loopOf cfx.P 38 0) noRnd (fun i : Nat => po_T nm gs cs n k T U w g y a b r p q i (tab (i * 6) (M.postF gs)) (2 * i)) (fun i : Nat => po_H nm gs cs n k T U w g y a b r p q i (tab (i * 6) (M.postF gs)) (2 * i)) n (e := .exit 0) (by simp)
    (fun i hi => by
      have := po_1 nm gs cs n k T U w g y a b r p q hz hn i (tab (i * 6) (M.postF gs)) (2 * i) (by omega) (by rw [tab_len]; omega) (by omega) (fun _ => all_range hg i hi) (by omega)
      simp only [Int.toNat_natCast] at this
      rw [show (at' gs (i * 5 + 2)).tdiv 2 + at' gs (i * 5 + 3) = M.hoopD gs i from rfl, M.posts_app] at this
      exact this)
    (po_2 nm gs cs n k T U w g y a b r p q hz hn n (tab (n * 6) (M.postF gs)) (2 * n) (by omega) (by rw [tab_len]; omega) (by omega) (fun h => by omega) (by omega))
abbrev zq29 (nm : ByteArray) (w : Int) (g : Int) (y : Int) (n : Nat) (a : Int) (b : Int) (r : Int) (p : Int) (q : Int) (k : Nat) : List V := (catV [lwA nm w g y n a b r p q k, .ptr 2 0, V.raw (Value.slice none 0 0), .slo 4 (2 * n)] (anyR 4 10 (catV [.slo 0 n, iV (n : Int), iV (n : Int)] (anyR 17 18 []))))
theorem posts_ok (hz : n * 5 ≤ gs.length) (hn : n ≤ 20) (hR : Runs cfx 0 4 none (.loop (loopOf cfx.P 38 0)) (po_T nm gs cs n k T U w g y a b r p q 0 [] 0) (po_H nm gs cs n k T U w g y a b r p q 0 [] 0) (.exit 0) (po_T2 nm gs cs n k T U w g y a b r p q n (tab (n * 6) (M.postF gs)) (2 * n)) (po_H2 nm gs cs n k T U w g y a b r p q n (tab (n * 6) (M.postF gs)) (2 * n)))  : Meets cfx 0 38 [lwA nm w g y n a b r p q k] [bkG gs T, bkI cs U] (.slo 2 (2 * n + 1)) [bkG gs T, bkI cs U, some (.cells (ints (tab (n * 6) (M.postF gs) ++ [a, b, r])) 46 (.row 3))] := by
  refine Meets.post (mev (ans := [Ans.go, Ans.loop (Ex.exit 0) (zq29 nm w g y n a b r p q k) [bkG gs T, bkI cs U, bkW nm w g y n a b r p q k, none, some (.cells (ints (tab (n * 6) (M.postF gs))) 46 (.row 3))], Ans.cells 6 (ints (tab (n * 6) (M.postF gs) ++ [a, b, r]))]) (v := .slo 6 (2 * n + 1)) (h' := [bkG gs T, bkI cs U, bkW nm w g y n a b r p q k, none, none, some (.cells [iV a, iV b, iV r] 46 (.row 3)), some (.cells (ints (tab (n * 6) (M.postF gs) ++ [a, b, r])) 46 (.row 3))]) (cons := [(inR IntKind.i64 ((2 * n) : Int)), (inR IntKind.i64 ((2 * n + 1) : Int)), ((0 : Int) ≤ (0 : Int) ∧ 0 ≤ ((2 * n + 1) : Int) ∧ ((24 * (2 * n + 1)) : Int) ≤ 281474976710656 ∧ ((2 * n + 1) : Int) ≤ 9223372036854775807), (Runs cfx 0 4 none (.loop (loopOf cfx.P 38 0)) (catV [lwA nm w g y n a b r p q k, .ptr 2 0, V.raw (Value.slice none 0 0), .slo 3 0, uV, uV, uV, .ptr 2 4, .slo 0 n, iV (n : Int), iV ((2 * n) : Int), iV ((2 * n + 1) : Int), .slo 3 0, .ptr 2 4, .slo 0 n, iV (n : Int), iV 0] (repU 18 [])) [bkG gs T, bkI cs U, bkW nm w g y n a b r p q k, some (.cells [] 46 (.row 3))] (Ex.exit 0) (zq29 nm w g y n a b r p q k) [bkG gs T, bkI cs U, bkW nm w g y n a b r p q k, none, some (.cells (ints (tab (n * 6) (M.postF gs))) 46 (.row 3))]), (1 ≤ 9223372036854775807), (1 * 3 ≤ List.length ([iV a, iV b, iV r] : List V)), (oneCells (List.take (1 * 3) ([iV a, iV b, iV r] : List V)) = true), (List.length ((ints (tab (n * 6) (M.postF gs))) : List V) = (2 * n) * 3), ((2 * n) + 1 ≤ maxLen ∧ ((2 * n) + 1) * 24 ≤ 140737488355328), (((ints (tab (n * 6) (M.postF gs))) : List V) ++ (List.take (1 * 3) ([iV a, iV b, iV r] : List V)) = (ints (tab (n * 6) (M.postF gs) ++ [a, b, r])))]) zk
    ⟨inR_i64 zo zo, inR_i64 zo zo, zds, (by
      refine Runs.pre (fun b e => by cases e) (fun RT RH => ?_) (hR)
      exact reshape2 (lim := 0) 4 (t := (catV [lwA nm w g y n a b r p q k, .ptr 2 0, V.raw (Value.slice none 0 0), .slo 3 0, uV, uV, uV, .ptr 2 4, .slo 0 n, iV (n : Int), iV ((2 * n) : Int), iV ((2 * n + 1) : Int), .slo 3 0, .ptr 2 4, .slo 0 n, iV (n : Int), iV 0] (repU 18 []))) (h := [bkG gs T, bkI cs U, bkW nm w g y n a b r p q k, some (.cells [] 46 (.row 3))]) cfx_G rfl [some 3] (by kernel_rfl) (by kernel_rfl) zdr RT RH), zds, (by first | omega | (simp only [ints_len, putI_length, List.length_append, List.length_replicate, List.length_take, List.length_drop, List.length_cons, List.length_nil, tab_len]; omega) | (simp only [ints_len, putI_length, List.length_append, List.length_replicate, List.length_take, List.length_drop, List.length_cons, List.length_nil, tab_len]; done)), (by first | exact ones_take _ _ | rfl), (by first | omega | (simp only [ints_len, putI_length, List.length_append, List.length_replicate, List.length_take, List.length_drop, List.length_cons, List.length_nil, tab_len]; omega) | (simp only [ints_len, putI_length, List.length_append, List.length_replicate, List.length_take, List.length_drop, List.length_cons, List.length_nil, tab_len]; done)), (by unfold maxLen; constructor <;> omega), (by first | rfl | exact app_lit _ _ rfl | exact app_row _ _ _ | exact row_row0 _ _ | exact app_row0 _ _), trivial⟩) (by kernel_rfl) (fun RT RH => reshape2 (lim := 0) 2 cfx_G rfl [some 6] (by kernel_rfl) (by kernel_rfl) (by exact (ents_raw (mix_all _ _) rfl rfl (ents_raw (ints_all _) rfl rfl (ents_raw (ints_all _) rfl rfl (ents_nil))))) RT RH)
abbrev zq14 (nm : ByteArray) (w : Int) (g : Int) (y : Int) (n : Nat) (a : Int) (b : Int) (r : Int) (p : Int) (q : Int) (k : Nat) (m : Nat) (i : Int) : List V := (catV [lwA nm w g y n a b r p q k, .ptr 2 0, V.raw (.bool false), .slo 3 m] (anyR 4 13 (catV [.slo 3 m, iV (m : Int), iV i] (anyR 20 50 []))))
def pf_T (nm : ByteArray) (gs cs zs : List Int) (n k m : Nat) (T U : Nat) (w g y a b r p q : Int) (i : Int) : List V := (zq14 nm w g y n a b r p q k m i)
abbrev zq59 (gs : List Int) (T : Nat) (cs : List Int) (U : Nat) (nm : ByteArray) (w : Int) (g : Int) (y : Int) (n : Nat) (a : Int) (b : Int) (r : Int) (p : Int) (q : Int) (k : Nat) (zs : List Int) : Heap := [bkG gs T, bkI cs U, bkW nm w g y n a b r p q k, some (.cells (ints zs) 46 (.row 3))]
def pf_H (nm : ByteArray) (gs cs zs : List Int) (n k m : Nat) (T U : Nat) (w g y a b r p q : Int) (i : Int) : Heap := (zq59 gs T cs U nm w g y n a b r p q k zs)
def pf_T1 (nm : ByteArray) (gs cs zs : List Int) (n k m : Nat) (T U : Nat) (w g y a b r p q : Int) (i : Int) : List V := (zq14 nm w g y n a b r p q k m i)
def pf_H1 (nm : ByteArray) (gs cs zs : List Int) (n k m : Nat) (T U : Nat) (w g y a b r p q : Int) (i : Int) : Heap := (zq59 gs T cs U nm w g y n a b r p q k zs)
abbrev zq38 (gs : List Int) (T : Nat) (cs : List Int) (U : Nat) (nm : ByteArray) (w : Int) (g : Int) (y : Int) (n : Nat) (a : Int) (b : Int) (r : Int) (p : Int) (q : Int) (k : Nat) (zs : List Int) (i : Int) : Heap := [bkG gs T, bkI cs U, bkW nm w g y n a b r p q k, some (.cells (ints zs) 46 (.row 3)), some (.cells [iV (at' zs (i.toNat * 3)), iV (at' zs (i.toNat * 3 + 1)), iV (at' zs (i.toNat * 3 + 2))] 46 .rw)]
abbrev zq41 (zs : List Int) (i : Int) (w : Int) : Prop := Ret cfx 83 [iV (at' zs (i.toNat * 3)), iV (at' zs (i.toNat * 3 + 2)), iV (w - at' zs (i.toNat * 3 + 2))] (V.raw (.bool (M.btw (at' zs (i.toNat * 3)) (at' zs (i.toNat * 3 + 2)) (w - at' zs (i.toNat * 3 + 2)))))
abbrev zq51 (nm : ByteArray) (w : Int) (g : Int) (y : Int) (n : Nat) (a : Int) (b : Int) (r : Int) (p : Int) (q : Int) (k : Nat) (gs : List Int) (T : Nat) (cs : List Int) (U : Nat) (m : Nat) (zs : List Int) : Prop := Meets cfx 0 38 [lwA nm w g y n a b r p q k] [bkG gs T, bkI cs U] (.slo 2 m) ([bkG gs T, bkI cs U, some (.cells (ints zs) 46 (.row 3))])
theorem pf_1 (nm : ByteArray) (gs cs zs : List Int) (n k m : Nat) (T U : Nat) (w g y a b r p q : Int) (hpo : (zq51 nm w g y n a b r p q k gs T cs U m zs)) (hr : M.btw r 1 8192 = true) (hz : zs.length = m * 3) (hm : m ≤ 100) (hw : -4194304 ≤ w ∧ w ≤ 4194304) (hg : -4194304 ≤ g ∧ g ≤ 4194304) (i : Int) (hi1 : 0 ≤ i) (hq : i < m → (-10000000 ≤ at' zs (i.toNat * 3 + 2) ∧ at' zs (i.toNat * 3 + 2) ≤ 10000000)) (f0 : i < (m : Int)) (f1 : M.btw (at' zs (i.toNat * 3)) (at' zs (i.toNat * 3 + 2)) (w - at' zs (i.toNat * 3 + 2)) = false) : Runs cfx 0 4 none (loopOf cfx.P 76 0) (pf_T nm gs cs zs n k m T U w g y a b r p q i) (pf_H nm gs cs zs n k m T U w g y a b r p q i) (Ex.ret) (pf_T1 nm gs cs zs n k m T U w g y a b r p q i) (pf_H1 nm gs cs zs n k m T U w g y a b r p q i) := by
  refine Runs.post (t1 := (catV [lwA nm w g y n a b r p q k, .ptr 2 0, V.raw (.bool false), .slo 3 m, .any 4, .ptr 4 0] (anyR 6 11 (catV (catV [.slo 3 m, iV (m : Int), iV i, V.raw (.bool (decide (i < (m : Int)))), V.ptr 3 (i.toNat * 3), (rowV zs (i.toNat * 3) 3), .ptr 4 0, .ptr 4 0, iV (at' zs (i.toNat * 3)), .ptr 4 2, iV (at' zs (i.toNat * 3 + 2)), .ptr 2 1, iV w, .ptr 4 2, iV (at' zs (i.toNat * 3 + 2)), iV (w - at' zs (i.toNat * 3 + 2)), V.raw (.bool (M.btw (at' zs (i.toNat * 3)) (at' zs (i.toNat * 3 + 2)) (w - at' zs (i.toNat * 3 + 2)))), V.raw (.bool !M.btw (at' zs (i.toNat * 3)) (at' zs (i.toNat * 3 + 2)) (w - at' zs (i.toNat * 3 + 2))), V.lit true] (repU 12 [V.raw (.bool true)])) (anyR 49 21 []))))) (h1 := (zq38 gs T cs U nm w g y n a b r p q k zs i)) (body_of cfx_mixed cfx_call zz (rnd := none) (fi := 0) (k := 0) (n := 40) (n0 := 4) (ans := [zT, Ans.val 3 ((rowV zs (i.toNat * 3) 3)), Ans.ret (V.raw (.bool (M.btw (at' zs (i.toNat * 3)) (at' zs (i.toNat * 3 + 2)) (w - at' zs (i.toNat * 3 + 2))))), zT, zT, zT]) (cons := [(decide (i < (m : Int)) = true), (0 ≤ i ∧ i < (m : Int)), (loadRow cfx 46 (ints zs) (i.toNat * 3) = some ((rowV zs (i.toNat * 3) 3))), (inR IntKind.i64 (w - at' zs (i.toNat * 3 + 2))), ((zq41 zs i w)), ((!M.btw (at' zs (i.toNat * 3)) (at' zs (i.toNat * 3 + 2)) (w - at' zs (i.toNat * 3 + 2))) = true), zY, zY]) zk
    ⟨zdo, zo, (load_agg 3 zk zk zb zo), inR_i64 zo zo, (lnBetween _ _ _), zdf, rfl, rfl, trivial⟩ zb zb noRnd (noRanges zk)) zt2
def pf_T2 (nm : ByteArray) (gs cs zs : List Int) (n k m : Nat) (T U : Nat) (w g y a b r p q : Int) (i : Int) : List V := (zq14 nm w g y n a b r p q k m i)
def pf_H2 (nm : ByteArray) (gs cs zs : List Int) (n k m : Nat) (T U : Nat) (w g y a b r p q : Int) (i : Int) : Heap := (zq59 gs T cs U nm w g y n a b r p q k zs)
abbrev zq40 (zs : List Int) (i : Int) (g : Int) : Prop := Ret cfx 83 [iV (at' zs (i.toNat * 3 + 1)), iV (at' zs (i.toNat * 3 + 2)), iV (g - at' zs (i.toNat * 3 + 2))] (V.raw (.bool (M.btw (at' zs (i.toNat * 3 + 1)) (at' zs (i.toNat * 3 + 2)) (g - at' zs (i.toNat * 3 + 2)))))
theorem pf_2 (nm : ByteArray) (gs cs zs : List Int) (n k m : Nat) (T U : Nat) (w g y a b r p q : Int) (hpo : (zq51 nm w g y n a b r p q k gs T cs U m zs)) (hr : M.btw r 1 8192 = true) (hz : zs.length = m * 3) (hm : m ≤ 100) (hw : -4194304 ≤ w ∧ w ≤ 4194304) (hg : -4194304 ≤ g ∧ g ≤ 4194304) (i : Int) (hi1 : 0 ≤ i) (hq : i < m → (-10000000 ≤ at' zs (i.toNat * 3 + 2) ∧ at' zs (i.toNat * 3 + 2) ≤ 10000000)) (f0 : i < (m : Int)) (f1 : M.btw (at' zs (i.toNat * 3)) (at' zs (i.toNat * 3 + 2)) (w - at' zs (i.toNat * 3 + 2)) = true) (f2 : M.btw (at' zs (i.toNat * 3 + 1)) (at' zs (i.toNat * 3 + 2)) (g - at' zs (i.toNat * 3 + 2)) = false) : Runs cfx 0 4 none (loopOf cfx.P 76 0) (pf_T nm gs cs zs n k m T U w g y a b r p q i) (pf_H nm gs cs zs n k m T U w g y a b r p q i) (Ex.ret) (pf_T2 nm gs cs zs n k m T U w g y a b r p q i) (pf_H2 nm gs cs zs n k m T U w g y a b r p q i) := by
  refine Runs.post (t1 := (catV [lwA nm w g y n a b r p q k, .ptr 2 0, V.raw (.bool false), .slo 3 m, .any 4, .ptr 4 0] (anyR 6 11 (catV [.slo 3 m, iV (m : Int), iV i, V.raw (.bool (decide (i < (m : Int)))), V.ptr 3 (i.toNat * 3), (rowV zs (i.toNat * 3) 3), .ptr 4 0, .ptr 4 0, iV (at' zs (i.toNat * 3)), .ptr 4 2, iV (at' zs (i.toNat * 3 + 2)), .ptr 2 1, iV w, .ptr 4 2, iV (at' zs (i.toNat * 3 + 2)), iV (w - at' zs (i.toNat * 3 + 2)), V.raw (.bool (M.btw (at' zs (i.toNat * 3)) (at' zs (i.toNat * 3 + 2)) (w - at' zs (i.toNat * 3 + 2)))), V.raw (.bool !M.btw (at' zs (i.toNat * 3)) (at' zs (i.toNat * 3 + 2)) (w - at' zs (i.toNat * 3 + 2))), V.lit false, .ptr 4 0, .ptr 4 1, iV (at' zs (i.toNat * 3 + 1)), .ptr 4 2, iV (at' zs (i.toNat * 3 + 2)), .ptr 2 2, iV g, .ptr 4 2, iV (at' zs (i.toNat * 3 + 2)), iV (g - at' zs (i.toNat * 3 + 2)), V.raw (.bool (M.btw (at' zs (i.toNat * 3 + 1)) (at' zs (i.toNat * 3 + 2)) (g - at' zs (i.toNat * 3 + 2)))), V.raw (.bool !M.btw (at' zs (i.toNat * 3 + 1)) (at' zs (i.toNat * 3 + 2)) (g - at' zs (i.toNat * 3 + 2))), V.raw (.bool !M.btw (at' zs (i.toNat * 3 + 1)) (at' zs (i.toNat * 3 + 2)) (g - at' zs (i.toNat * 3 + 2)))] (anyR 49 21 []))))) (h1 := (zq38 gs T cs U nm w g y n a b r p q k zs i)) (body_of cfx_mixed cfx_call zz (rnd := none) (fi := 0) (k := 0) (n := 40) (n0 := 4) (ans := [zT, Ans.val 3 ((rowV zs (i.toNat * 3) 3)), Ans.ret (V.raw (.bool (M.btw (at' zs (i.toNat * 3)) (at' zs (i.toNat * 3 + 2)) (w - at' zs (i.toNat * 3 + 2))))), zF, Ans.ret (V.raw (.bool (M.btw (at' zs (i.toNat * 3 + 1)) (at' zs (i.toNat * 3 + 2)) (g - at' zs (i.toNat * 3 + 2))))), zF, zT]) (cons := [(decide (i < (m : Int)) = true), (0 ≤ i ∧ i < (m : Int)), (loadRow cfx 46 (ints zs) (i.toNat * 3) = some ((rowV zs (i.toNat * 3) 3))), (inR IntKind.i64 (w - at' zs (i.toNat * 3 + 2))), ((zq41 zs i w)), ((!M.btw (at' zs (i.toNat * 3)) (at' zs (i.toNat * 3 + 2)) (w - at' zs (i.toNat * 3 + 2))) = false), (inR IntKind.i64 (g - at' zs (i.toNat * 3 + 2))), ((zq40 zs i g)), zN, ((!M.btw (at' zs (i.toNat * 3 + 1)) (at' zs (i.toNat * 3 + 2)) (g - at' zs (i.toNat * 3 + 2))) = true)]) zk
    ⟨zdo, zo, (load_agg 3 zk zk zb zo), inR_i64 zo zo, (lnBetween _ _ _), zdf, inR_i64 zo zo, (lnBetween _ _ _), rfl, zdf, trivial⟩ zb zb noRnd (noRanges zk)) zt2
theorem pf_3 (nm : ByteArray) (gs cs zs : List Int) (n k m : Nat) (T U : Nat) (w g y a b r p q : Int) (hpo : (zq51 nm w g y n a b r p q k gs T cs U m zs)) (hr : M.btw r 1 8192 = true) (hz : zs.length = m * 3) (hm : m ≤ 100) (hw : -4194304 ≤ w ∧ w ≤ 4194304) (hg : -4194304 ≤ g ∧ g ≤ 4194304) (i : Int) (hi1 : 0 ≤ i) (hq : i < m → (-10000000 ≤ at' zs (i.toNat * 3 + 2) ∧ at' zs (i.toNat * 3 + 2) ≤ 10000000)) (f0 : i < (m : Int)) (f1 : M.btw (at' zs (i.toNat * 3)) (at' zs (i.toNat * 3 + 2)) (w - at' zs (i.toNat * 3 + 2)) = true) (f2 : M.btw (at' zs (i.toNat * 3 + 1)) (at' zs (i.toNat * 3 + 2)) (g - at' zs (i.toNat * 3 + 2)) = true) : Runs cfx 0 4 none (loopOf cfx.P 76 0) (pf_T nm gs cs zs n k m T U w g y a b r p q i) (pf_H nm gs cs zs n k m T U w g y a b r p q i) (Ex.normal) (pf_T nm gs cs zs n k m T U w g y a b r p q (i + 1)) (pf_H nm gs cs zs n k m T U w g y a b r p q (i + 1)) := by
  refine Runs.post (t1 := (catV [lwA nm w g y n a b r p q k, .ptr 2 0, V.raw (.bool false), .slo 3 m, .any 4, .ptr 4 0] (anyR 6 11 (catV [.slo 3 m, iV (m : Int), iV (i + 1), V.raw (.bool (decide (i < (m : Int)))), V.ptr 3 (i.toNat * 3), (rowV zs (i.toNat * 3) 3), .ptr 4 0, .ptr 4 0, iV (at' zs (i.toNat * 3)), .ptr 4 2, iV (at' zs (i.toNat * 3 + 2)), .ptr 2 1, iV w, .ptr 4 2, iV (at' zs (i.toNat * 3 + 2)), iV (w - at' zs (i.toNat * 3 + 2)), V.raw (.bool (M.btw (at' zs (i.toNat * 3)) (at' zs (i.toNat * 3 + 2)) (w - at' zs (i.toNat * 3 + 2)))), V.raw (.bool !M.btw (at' zs (i.toNat * 3)) (at' zs (i.toNat * 3 + 2)) (w - at' zs (i.toNat * 3 + 2))), V.lit false, .ptr 4 0, .ptr 4 1, iV (at' zs (i.toNat * 3 + 1)), .ptr 4 2, iV (at' zs (i.toNat * 3 + 2)), .ptr 2 2, iV g, .ptr 4 2, iV (at' zs (i.toNat * 3 + 2)), iV (g - at' zs (i.toNat * 3 + 2)), V.raw (.bool (M.btw (at' zs (i.toNat * 3 + 1)) (at' zs (i.toNat * 3 + 2)) (g - at' zs (i.toNat * 3 + 2)))), V.raw (.bool !M.btw (at' zs (i.toNat * 3 + 1)) (at' zs (i.toNat * 3 + 2)) (g - at' zs (i.toNat * 3 + 2))), V.raw (.bool !M.btw (at' zs (i.toNat * 3 + 1)) (at' zs (i.toNat * 3 + 2)) (g - at' zs (i.toNat * 3 + 2))), iV (i + 1)] (anyR 50 20 []))))) (h1 := (zq38 gs T cs U nm w g y n a b r p q k zs i)) (body_of cfx_mixed cfx_call zz (rnd := none) (fi := 0) (k := 0) (n := 40) (n0 := 4) (ans := [zT, Ans.val 3 ((rowV zs (i.toNat * 3) 3)), Ans.ret (V.raw (.bool (M.btw (at' zs (i.toNat * 3)) (at' zs (i.toNat * 3 + 2)) (w - at' zs (i.toNat * 3 + 2))))), zF, Ans.ret (V.raw (.bool (M.btw (at' zs (i.toNat * 3 + 1)) (at' zs (i.toNat * 3 + 2)) (g - at' zs (i.toNat * 3 + 2))))), zF, zF]) (cons := [(decide (i < (m : Int)) = true), (0 ≤ i ∧ i < (m : Int)), (loadRow cfx 46 (ints zs) (i.toNat * 3) = some ((rowV zs (i.toNat * 3) 3))), (inR IntKind.i64 (w - at' zs (i.toNat * 3 + 2))), ((zq41 zs i w)), ((!M.btw (at' zs (i.toNat * 3)) (at' zs (i.toNat * 3 + 2)) (w - at' zs (i.toNat * 3 + 2))) = false), (inR IntKind.i64 (g - at' zs (i.toNat * 3 + 2))), ((zq40 zs i g)), zN, ((!M.btw (at' zs (i.toNat * 3 + 1)) (at' zs (i.toNat * 3 + 2)) (g - at' zs (i.toNat * 3 + 2))) = false), (inR IntKind.i64 (i + 1))]) zk
    ⟨zdo, zo, (load_agg 3 zk zk zb zo), inR_i64 zo zo, (lnBetween _ _ _), zdf, inR_i64 zo zo, (lnBetween _ _ _), rfl, zdf, inR_i64 zo zo, trivial⟩ zb zb noRnd (noRanges zk)) zt2
def pf_T4 (nm : ByteArray) (gs cs zs : List Int) (n k m : Nat) (T U : Nat) (w g y a b r p q : Int) (i : Int) : List V := (zq14 nm w g y n a b r p q k m i)
def pf_H4 (nm : ByteArray) (gs cs zs : List Int) (n k m : Nat) (T U : Nat) (w g y a b r p q : Int) (i : Int) : Heap := (zq59 gs T cs U nm w g y n a b r p q k zs)
theorem pf_4 (nm : ByteArray) (gs cs zs : List Int) (n k m : Nat) (T U : Nat) (w g y a b r p q : Int) (hpo : (zq51 nm w g y n a b r p q k gs T cs U m zs)) (hr : M.btw r 1 8192 = true) (hz : zs.length = m * 3) (hm : m ≤ 100) (hw : -4194304 ≤ w ∧ w ≤ 4194304) (hg : -4194304 ≤ g ∧ g ≤ 4194304) (i : Int) (hi1 : 0 ≤ i) (hq : i < m → (-10000000 ≤ at' zs (i.toNat * 3 + 2) ∧ at' zs (i.toNat * 3 + 2) ≤ 10000000)) (f0 : ¬i < (m : Int)) : Runs cfx 0 4 none (loopOf cfx.P 76 0) (pf_T nm gs cs zs n k m T U w g y a b r p q i) (pf_H nm gs cs zs n k m T U w g y a b r p q i) (Ex.exit 0) (pf_T4 nm gs cs zs n k m T U w g y a b r p q i) (pf_H4 nm gs cs zs n k m T U w g y a b r p q i) := by
  refine Runs.post (t1 := (catV [lwA nm w g y n a b r p q k, .ptr 2 0, V.raw (.bool false), .slo 3 m] (anyR 4 13 (catV [.slo 3 m, iV (m : Int), iV i, V.raw (.bool (decide (i < (m : Int))))] (anyR 21 49 []))))) (h1 := (zq59 gs T cs U nm w g y n a b r p q k zs)) (body_of cfx_mixed cfx_call zz (rnd := none) (fi := 0) (k := 0) (n := 40) (n0 := 4) (ans := [zF]) (cons := [(decide (i < (m : Int)) = false)]) zk
    ⟨zdo, trivial⟩ zb zb noRnd (noRanges zk)) zt2
abbrev zq15 (nm : ByteArray) (w : Int) (g : Int) (y : Int) (n : Nat) (a : Int) (b : Int) (r : Int) (p : Int) (q : Int) (k : Nat) (m : Nat) (i : Int) : List V := (catV [lwA nm w g y n a b r p q k, .ptr 2 0, V.raw (.bool false), .slo 3 m] (anyR 4 46 (catV [.slo 3 m, iV (m : Int), iV i] (anyR 53 17 []))))
def pg_T (nm : ByteArray) (gs cs zs : List Int) (n k m : Nat) (T U : Nat) (w g y a b r p q : Int) (i : Int) : List V := (zq15 nm w g y n a b r p q k m i)
def pg_H (nm : ByteArray) (gs cs zs : List Int) (n k m : Nat) (T U : Nat) (w g y a b r p q : Int) (i : Int) : Heap := (zq59 gs T cs U nm w g y n a b r p q k zs)
abbrev zq7 (nm : ByteArray) (w : Int) (g : Int) (y : Int) (n : Nat) (a : Int) (b : Int) (r : Int) (p : Int) (q : Int) (k : Nat) (m : Nat) (i : Int) (j : Int) : List V := (catV [lwA nm w g y n a b r p q k, .ptr 2 0, V.raw (.bool false), .slo 3 m, .any 4, .any 5, iV i, .ptr 4 0] (anyR 8 42 (catV [.slo 3 m, iV (m : Int), iV i] (anyR 53 6 (catV [.slo 3 i.toNat, iV (i.toNat : Int), iV j] (anyR 62 8 []))))))
def ph_T (nm : ByteArray) (gs cs zs : List Int) (n k m : Nat) (T U : Nat) (w g y a b r p q : Int) (i : Int) (j : Int) : List V := (zq7 nm w g y n a b r p q k m i j)
def ph_H (nm : ByteArray) (gs cs zs : List Int) (n k m : Nat) (T U : Nat) (w g y a b r p q : Int) (i : Int) (j : Int) : Heap := (zq38 gs T cs U nm w g y n a b r p q k zs i)
def ph_T1 (nm : ByteArray) (gs cs zs : List Int) (n k m : Nat) (T U : Nat) (w g y a b r p q : Int) (i : Int) (j : Int) : List V := (zq7 nm w g y n a b r p q k m i j)
def ph_H1 (nm : ByteArray) (gs cs zs : List Int) (n k m : Nat) (T U : Nat) (w g y a b r p q : Int) (i : Int) (j : Int) : Heap := (zq38 gs T cs U nm w g y n a b r p q k zs i)
abbrev zq62 (zs : List Int) (i : Int) : List V := [iV (at' zs (i.toNat * 3)), iV (at' zs (i.toNat * 3 + 1)), iV (at' zs (i.toNat * 3 + 2))]
theorem ph_1 (nm : ByteArray) (gs cs zs : List Int) (n k m : Nat) (T U : Nat) (w g y a b r p q : Int) (hpo : (zq51 nm w g y n a b r p q k gs T cs U m zs)) (hr : M.btw r 1 8192 = true) (hz : zs.length = m * 3) (hm : m ≤ 100) (hw : -4194304 ≤ w ∧ w ≤ 4194304) (hg : -4194304 ≤ g ∧ g ≤ 4194304) (i : Int) (hi1 : 0 ≤ i) (hi2 : i < m) (hd : ∀ j : Nat, j < m → chkDisc (at' zs (j * 3)) (at' zs (j * 3 + 1)) (at' zs (j * 3 + 2)) = 0) (j : Int) (hj1 : 0 ≤ j) (f0 : j < (i.toNat : Int)) (f1 : M.overB (at' zs (i.toNat * 3)) (at' zs (i.toNat * 3 + 1)) (at' zs (i.toNat * 3 + 2)) (at' zs (j.toNat * 3)) (at' zs (j.toNat * 3 + 1)) (at' zs (j.toNat * 3 + 2)) = true) : Runs cfx 0 5 none (loopOf cfx.P 76 2) (ph_T nm gs cs zs n k m T U w g y a b r p q i j) (ph_H nm gs cs zs n k m T U w g y a b r p q i j) (Ex.ret) (ph_T1 nm gs cs zs n k m T U w g y a b r p q i j) (ph_H1 nm gs cs zs n k m T U w g y a b r p q i j) := by
  refine Runs.post (t1 := (catV [lwA nm w g y n a b r p q k, .ptr 2 0, V.raw (.bool false), .slo 3 m, .any 4, .any 5, iV i, .ptr 4 0, .any 8, .ptr 5 0] (anyR 10 40 (catV [.slo 3 m, iV (m : Int), iV i] (anyR 53 6 [.slo 3 i.toNat, iV (i.toNat : Int), iV j, V.raw (.bool (decide (j < (i.toNat : Int)))), V.ptr 3 (j.toNat * 3), (rowV zs (j.toNat * 3) 3), (rowV zs (i.toNat * 3) 3), (rowV zs (j.toNat * 3) 3), V.raw (.bool (M.overB (at' zs (i.toNat * 3)) (at' zs (i.toNat * 3 + 1)) (at' zs (i.toNat * 3 + 2)) (at' zs (j.toNat * 3)) (at' zs (j.toNat * 3 + 1)) (at' zs (j.toNat * 3 + 2)))), .any 68, .any 69]))))) (h1 := [bkG gs T, bkI cs U, bkW nm w g y n a b r p q k, some (.cells (ints zs) 46 (.row 3)), some (.cells (zq62 zs i) 46 .rw), some (.cells [iV (at' zs (j.toNat * 3)), iV (at' zs (j.toNat * 3 + 1)), iV (at' zs (j.toNat * 3 + 2))] 46 .rw)]) (body_of cfx_mixed cfx_call zz (rnd := none) (fi := 0) (k := 0) (n := 40) (n0 := 5) (ans := [zT, Ans.val 3 ((rowV zs (j.toNat * 3) 3)), Ans.ret (V.raw (.bool (M.overB (at' zs (i.toNat * 3)) (at' zs (i.toNat * 3 + 1)) (at' zs (i.toNat * 3 + 2)) (at' zs (j.toNat * 3)) (at' zs (j.toNat * 3 + 1)) (at' zs (j.toNat * 3 + 2))))), zT]) (cons := [(decide (j < (i.toNat : Int)) = true), (0 ≤ j ∧ j < (i.toNat : Int)), (loadRow cfx 46 (ints zs) (j.toNat * 3) = some ((rowV zs (j.toNat * 3) 3))), (Ret cfx 98 [V.raw (.agg { toList := [.int .i64 (at' zs (i.toNat * 3)), .int .i64 (at' zs (i.toNat * 3 + 1)), .int .i64 (at' zs (i.toNat * 3 + 2))] }), V.raw (.agg { toList := [.int .i64 (at' zs (j.toNat * 3)), .int .i64 (at' zs (j.toNat * 3 + 1)), .int .i64 (at' zs (j.toNat * 3 + 2))] })] (V.raw (.bool (M.overB (at' zs (i.toNat * 3)) (at' zs (i.toNat * 3 + 1)) (at' zs (i.toNat * 3 + 2)) (at' zs (j.toNat * 3)) (at' zs (j.toNat * 3 + 1)) (at' zs (j.toNat * 3 + 2)))))), (M.overB (at' zs (i.toNat * 3)) (at' zs (i.toNat * 3 + 1)) (at' zs (i.toNat * 3 + 2)) (at' zs (j.toNat * 3)) (at' zs (j.toNat * 3 + 1)) (at' zs (j.toNat * 3 + 2)) = true)]) zk
    ⟨zdo, zo, (load_agg 3 zk zk zb zo), (lnOverlap _ _ _ _ _ _ (hd _ zo) (hd _ zo)), zdf, trivial⟩ zb zb noRnd (noRanges zk)) zt8
theorem ph_2 (nm : ByteArray) (gs cs zs : List Int) (n k m : Nat) (T U : Nat) (w g y a b r p q : Int) (hpo : (zq51 nm w g y n a b r p q k gs T cs U m zs)) (hr : M.btw r 1 8192 = true) (hz : zs.length = m * 3) (hm : m ≤ 100) (hw : -4194304 ≤ w ∧ w ≤ 4194304) (hg : -4194304 ≤ g ∧ g ≤ 4194304) (i : Int) (hi1 : 0 ≤ i) (hi2 : i < m) (hd : ∀ j : Nat, j < m → chkDisc (at' zs (j * 3)) (at' zs (j * 3 + 1)) (at' zs (j * 3 + 2)) = 0) (j : Int) (hj1 : 0 ≤ j) (f0 : j < (i.toNat : Int)) (f1 : M.overB (at' zs (i.toNat * 3)) (at' zs (i.toNat * 3 + 1)) (at' zs (i.toNat * 3 + 2)) (at' zs (j.toNat * 3)) (at' zs (j.toNat * 3 + 1)) (at' zs (j.toNat * 3 + 2)) = false) : Runs cfx 0 5 none (loopOf cfx.P 76 2) (ph_T nm gs cs zs n k m T U w g y a b r p q i j) (ph_H nm gs cs zs n k m T U w g y a b r p q i j) (Ex.normal) (ph_T nm gs cs zs n k m T U w g y a b r p q i (j + 1)) (ph_H nm gs cs zs n k m T U w g y a b r p q i (j + 1)) := by
  refine Runs.post (t1 := (catV [lwA nm w g y n a b r p q k, .ptr 2 0, V.raw (.bool false), .slo 3 m, .any 4, .any 5, iV i, .ptr 4 0, .any 8, .ptr 5 0] (anyR 10 40 (catV [.slo 3 m, iV (m : Int), iV i] (anyR 53 6 [.slo 3 i.toNat, iV (i.toNat : Int), iV (j + 1), V.raw (.bool (decide (j < (i.toNat : Int)))), V.ptr 3 (j.toNat * 3), (rowV zs (j.toNat * 3) 3), (rowV zs (i.toNat * 3) 3), (rowV zs (j.toNat * 3) 3), V.raw (.bool (M.overB (at' zs (i.toNat * 3)) (at' zs (i.toNat * 3 + 1)) (at' zs (i.toNat * 3 + 2)) (at' zs (j.toNat * 3)) (at' zs (j.toNat * 3 + 1)) (at' zs (j.toNat * 3 + 2)))), iV (j + 1), .any 69]))))) (h1 := [bkG gs T, bkI cs U, bkW nm w g y n a b r p q k, some (.cells (ints zs) 46 (.row 3)), some (.cells (zq62 zs i) 46 .rw), some (.cells [iV (at' zs (j.toNat * 3)), iV (at' zs (j.toNat * 3 + 1)), iV (at' zs (j.toNat * 3 + 2))] 46 .rw)]) (body_of cfx_mixed cfx_call zz (rnd := none) (fi := 0) (k := 0) (n := 40) (n0 := 5) (ans := [zT, Ans.val 3 ((rowV zs (j.toNat * 3) 3)), Ans.ret (V.raw (.bool (M.overB (at' zs (i.toNat * 3)) (at' zs (i.toNat * 3 + 1)) (at' zs (i.toNat * 3 + 2)) (at' zs (j.toNat * 3)) (at' zs (j.toNat * 3 + 1)) (at' zs (j.toNat * 3 + 2))))), zF]) (cons := [(decide (j < (i.toNat : Int)) = true), (0 ≤ j ∧ j < (i.toNat : Int)), (loadRow cfx 46 (ints zs) (j.toNat * 3) = some ((rowV zs (j.toNat * 3) 3))), (Ret cfx 98 [V.raw (.agg { toList := [.int .i64 (at' zs (i.toNat * 3)), .int .i64 (at' zs (i.toNat * 3 + 1)), .int .i64 (at' zs (i.toNat * 3 + 2))] }), V.raw (.agg { toList := [.int .i64 (at' zs (j.toNat * 3)), .int .i64 (at' zs (j.toNat * 3 + 1)), .int .i64 (at' zs (j.toNat * 3 + 2))] })] (V.raw (.bool (M.overB (at' zs (i.toNat * 3)) (at' zs (i.toNat * 3 + 1)) (at' zs (i.toNat * 3 + 2)) (at' zs (j.toNat * 3)) (at' zs (j.toNat * 3 + 1)) (at' zs (j.toNat * 3 + 2)))))), (M.overB (at' zs (i.toNat * 3)) (at' zs (i.toNat * 3 + 1)) (at' zs (i.toNat * 3 + 2)) (at' zs (j.toNat * 3)) (at' zs (j.toNat * 3 + 1)) (at' zs (j.toNat * 3 + 2)) = false), (inR IntKind.i64 (j + 1))]) zk
    ⟨zdo, zo, (load_agg 3 zk zk zb zo), (lnOverlap _ _ _ _ _ _ (hd _ zo) (hd _ zo)), zdf, inR_i64 zo zo, trivial⟩ zb zb noRnd (noRanges zk)) zt8
def ph_T3 (nm : ByteArray) (gs cs zs : List Int) (n k m : Nat) (T U : Nat) (w g y a b r p q : Int) (i : Int) (j : Int) : List V := (zq7 nm w g y n a b r p q k m i j)
def ph_H3 (nm : ByteArray) (gs cs zs : List Int) (n k m : Nat) (T U : Nat) (w g y a b r p q : Int) (i : Int) (j : Int) : Heap := (zq38 gs T cs U nm w g y n a b r p q k zs i)
theorem ph_3 (nm : ByteArray) (gs cs zs : List Int) (n k m : Nat) (T U : Nat) (w g y a b r p q : Int) (hpo : (zq51 nm w g y n a b r p q k gs T cs U m zs)) (hr : M.btw r 1 8192 = true) (hz : zs.length = m * 3) (hm : m ≤ 100) (hw : -4194304 ≤ w ∧ w ≤ 4194304) (hg : -4194304 ≤ g ∧ g ≤ 4194304) (i : Int) (hi1 : 0 ≤ i) (hi2 : i < m) (hd : ∀ j : Nat, j < m → chkDisc (at' zs (j * 3)) (at' zs (j * 3 + 1)) (at' zs (j * 3 + 2)) = 0) (j : Int) (hj1 : 0 ≤ j) (f0 : ¬j < (i.toNat : Int)) : Runs cfx 0 5 none (loopOf cfx.P 76 2) (ph_T nm gs cs zs n k m T U w g y a b r p q i j) (ph_H nm gs cs zs n k m T U w g y a b r p q i j) (Ex.exit 4) (ph_T3 nm gs cs zs n k m T U w g y a b r p q i j) (ph_H3 nm gs cs zs n k m T U w g y a b r p q i j) := by
  refine Runs.post (t1 := (catV [lwA nm w g y n a b r p q k, .ptr 2 0, V.raw (.bool false), .slo 3 m, .any 4, .any 5, iV i, .ptr 4 0] (anyR 8 42 (catV [.slo 3 m, iV (m : Int), iV i] (anyR 53 6 (catV [.slo 3 i.toNat, iV (i.toNat : Int), iV j, V.raw (.bool (decide (j < (i.toNat : Int))))] (anyR 63 7 []))))))) (h1 := (zq38 gs T cs U nm w g y n a b r p q k zs i)) (body_of cfx_mixed cfx_call zz (rnd := none) (fi := 0) (k := 0) (n := 40) (n0 := 5) (ans := [zF]) (cons := [(decide (j < (i.toNat : Int)) = false)]) zk
    ⟨zdo, trivial⟩ zb zb noRnd (noRanges zk)) zt8
def M.fitZ (w g : Int) (zs : List Int) (i : Nat) : Bool := M.btw (at' zs (i * 3)) (at' zs (i * 3 + 2)) (w - at' zs (i * 3 + 2)) && M.btw (at' zs (i * 3 + 1)) (at' zs (i * 3 + 2)) (g - at' zs (i * 3 + 2))
def M.apZ (zs : List Int) (i j : Nat) : Bool := !M.overB (at' zs (i * 3)) (at' zs (i * 3 + 1)) (at' zs (i * 3 + 2)) (at' zs (j * 3)) (at' zs (j * 3 + 1)) (at' zs (j * 3 + 2))
def M.fitsB (w g : Int) (zs : List Int) (m : Nat) : Bool := (List.range m).all (M.fitZ w g zs)
def M.apartB (zs : List Int) (m : Nat) : Bool := (List.range m).all fun i => (List.range i).all (M.apZ zs i)
theorem pf_loop (nm : ByteArray) (gs cs zs : List Int) (n k m : Nat) (T U : Nat) (w g y a b r p q : Int) (hpo : (zq51 nm w g y n a b r p q k gs T cs U m zs)) (hr : M.btw r 1 8192 = true) (hz : zs.length = m * 3) (hm : m ≤ 100) (hw : -4194304 ≤ w ∧ w ≤ 4194304) (hg : -4194304 ≤ g ∧ g ≤ 4194304) (hq : ∀ i, i < m → -10000000 ≤ at' zs (i * 3 + 2) ∧ at' zs (i * 3 + 2) ≤ 10000000) : (M.fitsB w g zs m = true ∧ Runs cfx 0 4 none (.loop (loopOf cfx.P 76 0)) (pf_T nm gs cs zs n k m T U w g y a b r p q 0) (pf_H nm gs cs zs n k m T U w g y a b r p q 0) (.exit 0) (pf_T4 nm gs cs zs n k m T U w g y a b r p q m) (pf_H4 nm gs cs zs n k m T U w g y a b r p q m)) ∨ (M.fitsB w g zs m = false ∧ ∃ i : Nat, Runs cfx 0 4 none (.loop (loopOf cfx.P 76 0)) (pf_T nm gs cs zs n k m T U w g y a b r p q 0) (pf_H nm gs cs zs n k m T U w g y a b r p q 0) (.ret) (pf_T1 nm gs cs zs n k m T U w g y a b r p q i) (pf_H1 nm gs cs zs n k m T U w g y a b r p q i)) := by
  rcases upto_find (c := cfx) (lim := 0) (n0 := 4) (x := loopOf cfx.P 76 0) noRnd (M.fitZ w g zs) (fun i : Nat => pf_T nm gs cs zs n k m T U w g y a b r p q i) (fun i : Nat => pf_H nm gs cs zs n k m T U w g y a b r p q i) m (fun i : Nat => pf_T1 nm gs cs zs n k m T U w g y a b r p q i) (fun i : Nat => pf_H1 nm gs cs zs n k m T U w g y a b r p q i) (e := .exit 0) (e1 := .ret) (by simp) (by simp)
    (fun i hi hgd => by
      simp only [M.fitZ, Bool.and_eq_true] at hgd
      exact pf_3 nm gs cs zs n k m T U w g y a b r p q hpo hr hz hm hw hg i zo (fun _ => hq i hi) zo hgd.1 hgd.2)
    (fun i hi hgd => by
      cases q1 : M.btw (at' zs (i * 3)) (at' zs (i * 3 + 2)) (w - at' zs (i * 3 + 2)) with
      | false => exact pf_1 nm gs cs zs n k m T U w g y a b r p q hpo hr hz hm hw hg i zo (fun _ => hq i hi) zo q1
      | true =>
      cases q2 : M.btw (at' zs (i * 3 + 1)) (at' zs (i * 3 + 2)) (g - at' zs (i * 3 + 2)) with
      | false => exact pf_2 nm gs cs zs n k m T U w g y a b r p q hpo hr hz hm hw hg i zo (fun _ => hq i hi) zo q1 q2
      | true => simp [M.fitZ, q1, q2] at hgd)
    (pf_4 nm gs cs zs n k m T U w g y a b r p q hpo hr hz hm hw hg m zo (fun h => by omega) zo) with ⟨h1, h2⟩ | ⟨h1, i, hi, h2, h3, h4⟩
  · exact .inl ⟨h1, h2⟩
  · exact .inr ⟨h1, i, h4⟩
theorem ph_loop (nm : ByteArray) (gs cs zs : List Int) (n k m : Nat) (T U : Nat) (w g y a b r p q : Int) (hpo : (zq51 nm w g y n a b r p q k gs T cs U m zs)) (hr : M.btw r 1 8192 = true) (hz : zs.length = m * 3) (hm : m ≤ 100) (hw : -4194304 ≤ w ∧ w ≤ 4194304) (hg : -4194304 ≤ g ∧ g ≤ 4194304) (hd : ∀ j : Nat, j < m → chkDisc (at' zs (j * 3)) (at' zs (j * 3 + 1)) (at' zs (j * 3 + 2)) = 0) (i : Nat) (hi : i < m) : ((List.range i).all (M.apZ zs i) = true ∧ Runs cfx 0 5 none (.loop (loopOf cfx.P 76 2)) (ph_T nm gs cs zs n k m T U w g y a b r p q i 0) (ph_H nm gs cs zs n k m T U w g y a b r p q i 0) (.exit 4) (ph_T3 nm gs cs zs n k m T U w g y a b r p q i i) (ph_H3 nm gs cs zs n k m T U w g y a b r p q i i)) ∨ ((List.range i).all (M.apZ zs i) = false ∧ ∃ j : Nat, Runs cfx 0 5 none (.loop (loopOf cfx.P 76 2)) (ph_T nm gs cs zs n k m T U w g y a b r p q i 0) (ph_H nm gs cs zs n k m T U w g y a b r p q i 0) (.ret) (ph_T1 nm gs cs zs n k m T U w g y a b r p q i j) (ph_H1 nm gs cs zs n k m T U w g y a b r p q i j)) := by
  rcases upto_find (c := cfx) (lim := 0) (n0 := 5) (x := loopOf cfx.P 76 2) noRnd (M.apZ zs i) (fun j : Nat => ph_T nm gs cs zs n k m T U w g y a b r p q i j) (fun j : Nat => ph_H nm gs cs zs n k m T U w g y a b r p q i j) i (fun j : Nat => ph_T1 nm gs cs zs n k m T U w g y a b r p q i j) (fun j : Nat => ph_H1 nm gs cs zs n k m T U w g y a b r p q i j) (e := .exit 4) (e1 := .ret) (by simp) (by simp)
    (fun j hj hgd => by
      simp only [M.apZ, Bool.not_eq_true'] at hgd
      exact ph_2 nm gs cs zs n k m T U w g y a b r p q hpo hr hz hm hw hg i (by omega) (by omega) hd j (by omega) (by simp only [Int.toNat_natCast]; omega) hgd)
    (fun j hj hgd => by
      simp only [M.apZ, Bool.not_eq_false'] at hgd
      exact ph_1 nm gs cs zs n k m T U w g y a b r p q hpo hr hz hm hw hg i (by omega) (by omega) hd j (by omega) (by simp only [Int.toNat_natCast]; omega) hgd)
    (ph_3 nm gs cs zs n k m T U w g y a b r p q hpo hr hz hm hw hg i (by omega) (by omega) hd i (by omega) (by simp only [Int.toNat_natCast]; omega)) with ⟨h1, h2⟩ | ⟨h1, j, hj, h2, h3, h4⟩
  · exact .inl ⟨h1, h2⟩
  · exact .inr ⟨h1, j, h4⟩
abbrev zq4 (nm : ByteArray) (w : Int) (g : Int) (y : Int) (n : Nat) (a : Int) (b : Int) (r : Int) (p : Int) (q : Int) (k : Nat) (m : Nat) (i : Int) (zs : List Int) : List V := (catV [lwA nm w g y n a b r p q k, .ptr 2 0, V.raw (.bool false), .slo 3 m, .any 4, .any 5, iV i, .ptr 4 0] (anyR 8 42 (catV [.slo 3 m, iV (m : Int), iV i, V.raw (.bool (decide (i < (m : Int)))), iV i, V.ptr 3 (i.toNat * 3), (rowV zs (i.toNat * 3) 3), .slo 3 m, iV i, .slo 3 i.toNat, iV (i.toNat : Int), iV 0] (anyR 62 8 []))))
abbrev zq8 (nm : ByteArray) (w : Int) (g : Int) (y : Int) (n : Nat) (a : Int) (b : Int) (r : Int) (p : Int) (q : Int) (k : Nat) (m : Nat) (i : Int) : List V := (catV [lwA nm w g y n a b r p q k, .ptr 2 0, V.raw (.bool false), .slo 3 m, .any 4, .any 5, iV i, .ptr 4 0] (anyR 8 42 (catV [.slo 3 m, iV (m : Int), iV i] (anyR 53 6 (catV [.slo 3 i.toNat, iV (i.toNat : Int), iV i] (anyR 62 8 []))))))
theorem pga_1 (nm : ByteArray) (gs cs zs : List Int) (n k m : Nat) (T U : Nat) (w g y a b r p q : Int) (hpo : (zq51 nm w g y n a b r p q k gs T cs U m zs)) (hr : M.btw r 1 8192 = true) (hz : zs.length = m * 3) (hm : m ≤ 100) (hw : -4194304 ≤ w ∧ w ≤ 4194304) (hg : -4194304 ≤ g ∧ g ≤ 4194304) (i : Int) (hi1 : 0 ≤ i) (hi2 : i < (m : Int)) (hR : Runs cfx 0 5 none (.loop (loopOf cfx.P 76 2)) (ph_T nm gs cs zs n k m T U w g y a b r p q i 0) (ph_H nm gs cs zs n k m T U w g y a b r p q i 0) (.exit 4) (ph_T3 nm gs cs zs n k m T U w g y a b r p q i i) (ph_H3 nm gs cs zs n k m T U w g y a b r p q i i))  : Runs cfx 0 4 none (loopOf cfx.P 76 1) (pg_T nm gs cs zs n k m T U w g y a b r p q i) (pg_H nm gs cs zs n k m T U w g y a b r p q i) (Ex.normal) (pg_T nm gs cs zs n k m T U w g y a b r p q (i + 1)) (pg_H nm gs cs zs n k m T U w g y a b r p q (i + 1)) := by
  refine Runs.post (t1 := (catV [lwA nm w g y n a b r p q k, .ptr 2 0, V.raw (.bool false), .slo 3 m, .any 4, .any 5, iV i, .ptr 4 0] (anyR 8 42 (catV [.slo 3 m, iV (m : Int), iV (i + 1)] (anyR 53 6 (catV [.slo 3 i.toNat, iV (i.toNat : Int), iV i] (anyR 62 7 [iV (i + 1)]))))))) (h1 := (zq38 gs T cs U nm w g y n a b r p q k zs i)) (body_of cfx_mixed cfx_call zz (rnd := none) (fi := 0) (k := 0) (n := 40) (n0 := 4) (ans := [zT, Ans.val 3 ((rowV zs (i.toNat * 3) 3)), Ans.loop (Ex.exit 4) (zq8 nm w g y n a b r p q k m i) (zq38 gs T cs U nm w g y n a b r p q k zs i)]) (cons := [(decide (i < (m : Int)) = true), (0 ≤ i ∧ i < (m : Int)), (loadRow cfx 46 (ints zs) (i.toNat * 3) = some ((rowV zs (i.toNat * 3) 3))), (0 ≤ i ∧ i ≤ (m : Int) ∧ 0 < 3 ∧ m * 3 ≤ (ints zs).length), (Runs cfx 0 5 none (.loop (loopOf cfx.P 76 2)) (zq4 nm w g y n a b r p q k m i zs) (zq38 gs T cs U nm w g y n a b r p q k zs i) (Ex.exit 4) (zq8 nm w g y n a b r p q k m i) (zq38 gs T cs U nm w g y n a b r p q k zs i)), (inR IntKind.i64 (i + 1))]) zk
    ⟨zdo, zo, (load_agg 3 zk zk zb zo), zdl, (by
      refine Runs.pre (fun b e => by cases e) (fun RT RH => ?_) (hR)
      exact reshape2 (lim := 0) 5 (t := (zq4 nm w g y n a b r p q k m i zs)) (h := (zq38 gs T cs U nm w g y n a b r p q k zs i)) cfx_G rfl [] zk zk zdr RT RH), inR_i64 zo zo, trivial⟩ zb zb noRnd (noRanges zk)) zt2
def pgb_T1 (nm : ByteArray) (gs cs zs : List Int) (n k m : Nat) (T U : Nat) (w g y a b r p q : Int) (i : Int) (j : Nat) : List V := (zq15 nm w g y n a b r p q k m i)
def pgb_H1 (nm : ByteArray) (gs cs zs : List Int) (n k m : Nat) (T U : Nat) (w g y a b r p q : Int) (i : Int) (j : Nat) : Heap := (zq59 gs T cs U nm w g y n a b r p q k zs)
abbrev zq6 (nm : ByteArray) (w : Int) (g : Int) (y : Int) (n : Nat) (a : Int) (b : Int) (r : Int) (p : Int) (q : Int) (k : Nat) (m : Nat) (i : Int) (j : Nat) : List V := (catV [lwA nm w g y n a b r p q k, .ptr 2 0, V.raw (.bool false), .slo 3 m, .any 4, .any 5, iV i, .ptr 4 0] (anyR 8 42 (catV [.slo 3 m, iV (m : Int), iV i] (anyR 53 6 (catV [.slo 3 i.toNat, iV (i.toNat : Int), iV (j : Int)] (anyR 62 8 []))))))
theorem pgb_1 (nm : ByteArray) (gs cs zs : List Int) (n k m : Nat) (T U : Nat) (w g y a b r p q : Int) (hpo : (zq51 nm w g y n a b r p q k gs T cs U m zs)) (hr : M.btw r 1 8192 = true) (hz : zs.length = m * 3) (hm : m ≤ 100) (hw : -4194304 ≤ w ∧ w ≤ 4194304) (hg : -4194304 ≤ g ∧ g ≤ 4194304) (i : Int) (hi1 : 0 ≤ i) (hi2 : i < (m : Int)) (j : Nat) (hR : Runs cfx 0 5 none (.loop (loopOf cfx.P 76 2)) (ph_T nm gs cs zs n k m T U w g y a b r p q i 0) (ph_H nm gs cs zs n k m T U w g y a b r p q i 0) (.ret) (ph_T1 nm gs cs zs n k m T U w g y a b r p q i j) (ph_H1 nm gs cs zs n k m T U w g y a b r p q i j))  : Runs cfx 0 4 none (loopOf cfx.P 76 1) (pg_T nm gs cs zs n k m T U w g y a b r p q i) (pg_H nm gs cs zs n k m T U w g y a b r p q i) (Ex.ret) (pgb_T1 nm gs cs zs n k m T U w g y a b r p q i j) (pgb_H1 nm gs cs zs n k m T U w g y a b r p q i j) := by
  refine Runs.post (t1 := (zq6 nm w g y n a b r p q k m i j)) (h1 := (zq38 gs T cs U nm w g y n a b r p q k zs i)) (body_of cfx_mixed cfx_call zz (rnd := none) (fi := 0) (k := 0) (n := 40) (n0 := 4) (ans := [zT, Ans.val 3 ((rowV zs (i.toNat * 3) 3)), Ans.loop Ex.ret (zq6 nm w g y n a b r p q k m i j) (zq38 gs T cs U nm w g y n a b r p q k zs i)]) (cons := [(decide (i < (m : Int)) = true), (0 ≤ i ∧ i < (m : Int)), (loadRow cfx 46 (ints zs) (i.toNat * 3) = some ((rowV zs (i.toNat * 3) 3))), (0 ≤ i ∧ i ≤ (m : Int) ∧ 0 < 3 ∧ m * 3 ≤ (ints zs).length), (Runs cfx 0 5 none (.loop (loopOf cfx.P 76 2)) (zq4 nm w g y n a b r p q k m i zs) (zq38 gs T cs U nm w g y n a b r p q k zs i) (Ex.ret) (zq6 nm w g y n a b r p q k m i j) (zq38 gs T cs U nm w g y n a b r p q k zs i))]) zk
    ⟨zdo, zo, (load_agg 3 zk zk zb zo), zdl, (by
      refine Runs.pre (fun b e => by cases e) (fun RT RH => ?_) (hR)
      exact reshape2 (lim := 0) 5 (t := (zq4 nm w g y n a b r p q k m i zs)) (h := (zq38 gs T cs U nm w g y n a b r p q k zs i)) cfx_G rfl [] zk zk zdr RT RH), trivial⟩ zb zb noRnd (noRanges zk)) zt2
def pgc_T1 (nm : ByteArray) (gs cs zs : List Int) (n k m : Nat) (T U : Nat) (w g y a b r p q : Int) (i : Int) : List V := (zq15 nm w g y n a b r p q k m i)
def pgc_H1 (nm : ByteArray) (gs cs zs : List Int) (n k m : Nat) (T U : Nat) (w g y a b r p q : Int) (i : Int) : Heap := (zq59 gs T cs U nm w g y n a b r p q k zs)
theorem pgc_1 (nm : ByteArray) (gs cs zs : List Int) (n k m : Nat) (T U : Nat) (w g y a b r p q : Int) (hpo : (zq51 nm w g y n a b r p q k gs T cs U m zs)) (hr : M.btw r 1 8192 = true) (hz : zs.length = m * 3) (hm : m ≤ 100) (hw : -4194304 ≤ w ∧ w ≤ 4194304) (hg : -4194304 ≤ g ∧ g ≤ 4194304) (i : Int) (hi1 : 0 ≤ i) (hi2 : ¬ i < (m : Int))  : Runs cfx 0 4 none (loopOf cfx.P 76 1) (pg_T nm gs cs zs n k m T U w g y a b r p q i) (pg_H nm gs cs zs n k m T U w g y a b r p q i) (Ex.exit 2) (pgc_T1 nm gs cs zs n k m T U w g y a b r p q i) (pgc_H1 nm gs cs zs n k m T U w g y a b r p q i) := by
  refine Runs.post (t1 := (catV [lwA nm w g y n a b r p q k, .ptr 2 0, V.raw (.bool false), .slo 3 m] (anyR 4 46 (catV [.slo 3 m, iV (m : Int), iV i, V.raw (.bool (decide (i < (m : Int))))] (anyR 54 16 []))))) (h1 := (zq59 gs T cs U nm w g y n a b r p q k zs)) (body_of cfx_mixed cfx_call zz (rnd := none) (fi := 0) (k := 0) (n := 40) (n0 := 4) (ans := [zF]) (cons := [(decide (i < (m : Int)) = false)]) zk
    ⟨zdo, trivial⟩ zb zb noRnd (noRanges zk)) zt2
theorem lnTouches (x y d u v s : Int) (h1 : chkDisc u v s = 0) (h2 : chkDisc x y d = 0)  : Meets cfx 0 100 [.raw (.agg #[.int .i64 x, .int .i64 y, .int .i64 d]), .ptr 0 0] [some (.cells [.raw (.int .i64 u), .raw (.int .i64 v), .raw (.int .i64 s)] 46 .ro)] (V.raw (.bool (M.overB u v s x y d))) [some (.cells [iV u, iV v, iV s] 46 .ro)] := by
  refine Meets.post (mev (ans := [Ans.go, Ans.ret (V.raw (.bool (M.overB u v s x y d)))]) (v := V.raw (.bool (M.overB u v s x y d))) (h' := [some (.cells [iV u, iV v, iV s] 46 .ro), some (.cells [iV x, iV y, iV d] 46 .rw)]) (cons := [(Ret cfx 98 [V.raw (.agg { toList := [.int .i64 u, .int .i64 v, .int .i64 s] }), V.raw (.agg { toList := [.int .i64 x, .int .i64 y, .int .i64 d] })] (V.raw (.bool (M.overB u v s x y d))))]) zk
    ⟨(lnOverlap _ _ _ _ _ _ h1 h2), trivial⟩) zk (fun RT RH => reshape2 (lim := 0) 1 cfx_G rfl [] zk zk (by exact (ents_say rfl rfl rfl rfl (ents_nil))) RT RH)
theorem oth_loop (os : List Int) (m : Nat) (W : Nat) (hz : m * 3 ≤ os.length) (hm : m ≤ 12) : (M.othB os m = true ∧ Runs cfx 0 1 none (.loop (loopOf cfx.P 79 0)) (oth_T os m W 0) (oth_H os m W 0) (.exit 0) (oth_T4 os m W m) (oth_H4 os m W m)) ∨ (M.othB os m = false ∧ ∃ t h, ((∃ i : Nat, t = oth_T1 os m W i ∧ h = oth_H1 os m W i) ∨ (∃ i : Nat, t = oth_T2 os m W i ∧ h = oth_H2 os m W i)) ∧ Runs cfx 0 1 none (.loop (loopOf cfx.P 79 0)) (oth_T os m W 0) (oth_H os m W 0) (.ret) t h) :=
  upto_findB (c := cfx) (lim := 0) (n0 := 1) (x := loopOf cfx.P 79 0) noRnd (M.othZ os) (fun i : Nat => oth_T os m W i) (fun i : Nat => oth_H os m W i) m (e := .exit 0) (e1 := .ret) _ (by simp) (by simp)
    (fun i hi hg => by
      simp only [M.othZ, Bool.and_eq_true] at hg
      exact oth_3 os m W hz hm i zo zo (M.pt_iff.2 (M.ptB_iff.1 hg.1)) (M.rad_iff.2 (M.btw_iff.1 hg.2)))
    (fun i hi hg => by
      by_cases h1 : M.ptE (at' os (i * 3)) (at' os (i * 3 + 1)) = 0
      · by_cases h2 : M.radE (at' os (i * 3 + 2)) = 0
        · rw [M.othZ, M.ptB_iff.2 (M.pt_iff.1 h1), M.btw_iff.2 (M.rad_iff.1 h2)] at hg
          cases hg
        · exact ⟨_, _, .inr ⟨i, rfl, rfl⟩, oth_2 os m W hz hm i zo zo h1 h2⟩
      · exact ⟨_, _, .inl ⟨i, rfl, rfl⟩, oth_1 os m W hz hm i zo zo h1⟩)
    (oth_4 os m W hz hm m zo zo)
theorem oth_many (os : List Int) (m : Nat) (W : Nat) (hm : 12 < m) (hb : m ≤ 1000000000)  : Meets cfx 0 79 [.slo 0 m] [bkI os W] (iV 6) [bkI os W] := by
  refine Meets.post (mev (ans := [Ans.go, zT]) (v := (iV 6)) (h' := [bkI os W]) (cons := [(decide (12 < (m : Int)) = true)]) zk
    ⟨zdo, trivial⟩) zk zt1
abbrev zq66 (m : Nat) (i : Nat) : List V := (catV [.slo 0 m, uV, iV 2, uV, .any 4, .slo 0 m, iV (m : Int), V.raw (.bool (decide (12 < (m : Int)))), .slo 0 m, iV (m : Int), iV (i : Int)] (anyR 11 14 []))
abbrev zq67 (m : Nat) : List V := (catV [.slo 0 m, uV, iV 0, uV, uV, .slo 0 m, iV (m : Int), V.raw (.bool (decide (12 < (m : Int)))), .slo 0 m, iV (m : Int), iV 0] (repU 14 []))
abbrev zq21 (m : Nat) (os : List Int) (W : Nat) (i : Nat) : Prop := Runs cfx 0 1 none (.loop (loopOf cfx.P 79 0)) (zq67 m) [bkI os W] (Ex.ret) (zq66 m i) [bkI os W]
abbrev zq31 (m : Nat) (i : Nat) : List V := (zq66 m i)
abbrev zq49 (m : Nat) : List V := (zq67 m)
theorem oth_bad1 (os : List Int) (m : Nat) (W : Nat) (hz : m * 3 ≤ os.length) (hm : m ≤ 12) (i : Nat) (hR : Runs cfx 0 1 none (.loop (loopOf cfx.P 79 0)) (oth_T os m W 0) (oth_H os m W 0) (.ret) (oth_T1 os m W i) (oth_H1 os m W i))  : Meets cfx 0 79 [.slo 0 m] [bkI os W] (iV 2) [bkI os W] := by
  refine Meets.post (mev (ans := [Ans.go, zF, Ans.loop Ex.ret (zq31 m i) [bkI os W]]) (v := (iV 2)) (h' := [bkI os W]) (cons := [(decide (12 < (m : Int)) = false), ((zq21 m os W i))]) zk
    ⟨zdo, (by
      refine Runs.pre (fun b e => by cases e) (fun RT RH => ?_) (hR)
      exact reshape2 (lim := 0) 1 (t := (zq49 m)) (h := [bkI os W]) cfx_G rfl [] zk zk zdr RT RH), trivial⟩) zk zt1
theorem oth_bad2 (os : List Int) (m : Nat) (W : Nat) (hz : m * 3 ≤ os.length) (hm : m ≤ 12) (i : Nat) (hR : Runs cfx 0 1 none (.loop (loopOf cfx.P 79 0)) (oth_T os m W 0) (oth_H os m W 0) (.ret) (oth_T2 os m W i) (oth_H2 os m W i))  : Meets cfx 0 79 [.slo 0 m] [bkI os W] (iV 2) [bkI os W] := by
  refine Meets.post (mev (ans := [Ans.go, zF, Ans.loop Ex.ret (zq31 m i) [bkI os W]]) (v := (iV 2)) (h' := [bkI os W]) (cons := [(decide (12 < (m : Int)) = false), ((zq21 m os W i))]) zk
    ⟨zdo, (by
      refine Runs.pre (fun b e => by cases e) (fun RT RH => ?_) (hR)
      exact reshape2 (lim := 0) 1 (t := (zq49 m)) (h := [bkI os W]) cfx_G rfl [] zk zk zdr RT RH), trivial⟩) zk zt1
abbrev zq32 (m : Nat) : List V := (catV [.slo 0 m, uV, iV 0, uV, .any 4, .slo 0 m, iV (m : Int), V.raw (.bool (decide (12 < (m : Int)))), .slo 0 m, iV (m : Int), iV (m : Int)] (anyR 11 14 []))
theorem oth_ok (os : List Int) (m : Nat) (W : Nat) (hz : m * 3 ≤ os.length) (hm : m ≤ 12) (hR : Runs cfx 0 1 none (.loop (loopOf cfx.P 79 0)) (oth_T os m W 0) (oth_H os m W 0) (.exit 0) (oth_T4 os m W m) (oth_H4 os m W m))  : Meets cfx 0 79 [.slo 0 m] [bkI os W] (iV 0) [bkI os W] := by
  refine Meets.post (mev (ans := [Ans.go, zF, Ans.loop (Ex.exit 0) (zq32 m) [bkI os W]]) (v := (iV 0)) (h' := [bkI os W]) (cons := [(decide (12 < (m : Int)) = false), (Runs cfx 0 1 none (.loop (loopOf cfx.P 79 0)) (zq49 m) [bkI os W] (Ex.exit 0) (zq32 m) [bkI os W])]) zk
    ⟨zdo, (by
      refine Runs.pre (fun b e => by cases e) (fun RT RH => ?_) (hR)
      exact reshape2 (lim := 0) 1 (t := (zq49 m)) (h := [bkI os W]) cfx_G rfl [] zk zk zdr RT RH), trivial⟩) zk zt1
theorem lnOthers (os : List Int) (m : Nat) (W : Nat) (hz : m * 3 ≤ os.length) (hb : m ≤ 1000000) : Meets cfx 0 79 [.slo 0 m] [bkI os W] (.raw (.int .i64 (M.othE os m))) [bkI os W] := by
  unfold M.othE
  by_cases hm : 12 < m
  · rw [if_pos hm]; exact oth_many os m W hm (by omega)
  rw [if_neg hm]
  rcases oth_loop os m W hz (by omega) with ⟨e, R⟩ | ⟨e, t, h, ⟨i, rfl, rfl⟩ | ⟨i, rfl, rfl⟩, R⟩ <;> rw [e]
  · exact oth_ok os m W hz zo R
  · exact oth_bad1 os m W hz zo i R
  · exact oth_bad2 os m W hz zo i R
theorem M.oth_ok {os : List Int} {m : Nat} (h : M.othE os m = 0) : m ≤ 12 ∧ ∀ i : Nat, i < m → M.In (at' os (i * 3)) (at' os (i * 3 + 1)) ∧ 1 ≤ at' os (i * 3 + 2) ∧ at' os (i * 3 + 2) ≤ 16384 := by
  unfold M.othE at h
  by_cases hm : 12 < m
  · rw [if_pos hm] at h; omega
  · rw [if_neg hm] at h
    cases hb : M.othB os m with
    | false => rw [hb, if_neg (by simp)] at h; omega
    | true =>
      refine ⟨by omega, fun i hi => ?_⟩
      have h1 := all_range hb i hi
      unfold M.othZ at h1
      rw [Bool.and_eq_true] at h1
      exact ⟨M.ptB_iff.1 h1.1, M.btw_iff.1 h1.2⟩
theorem chkDisc_fit {x y r : Int} (hr : 1 ≤ r ∧ r ≤ 65536) (hx : -4194304 ≤ x ∧ x ≤ 4194304) (hy : -4194304 ≤ y ∧ y ≤ 4194304) : chkDisc x y r = 0 := by
  unfold chkDisc
  rw [if_neg (by omega)]
  unfold M.chk M.okAll
  simp only [List.all_cons, List.all_nil, Bool.and_true, M.fits]
  rw [if_pos (by simp; omega)]
theorem M.fits_disc {w g : Int} {zs : List Int} {m : Nat} (hw : w ≤ 4194304) (hg : g ≤ 4194304) (h : M.fitsB w g zs m = true) (hrad : ∀ j : Nat, j < m → 1 ≤ at' zs (j * 3 + 2) ∧ at' zs (j * 3 + 2) ≤ 8192) : ∀ j : Nat, j < m → chkDisc (at' zs (j * 3)) (at' zs (j * 3 + 1)) (at' zs (j * 3 + 2)) = 0 := fun j hj => by
  have h1 := all_range h j hj
  simp only [M.fitZ, Bool.and_eq_true, M.btw_iff] at h1
  have h2 := hrad j hj
  exact chkDisc_fit zo zo zo
theorem pg_loop (nm : ByteArray) (gs cs zs : List Int) (n k m : Nat) (T U : Nat) (w g y a b r p q : Int) (hpo : (zq51 nm w g y n a b r p q k gs T cs U m zs)) (hr : M.btw r 1 8192 = true) (hz : zs.length = m * 3) (hm : m ≤ 100) (hw : -4194304 ≤ w ∧ w ≤ 4194304) (hg : -4194304 ≤ g ∧ g ≤ 4194304) (hd : ∀ j : Nat, j < m → chkDisc (at' zs (j * 3)) (at' zs (j * 3 + 1)) (at' zs (j * 3 + 2)) = 0) : (M.apartB zs m = true ∧ Runs cfx 0 4 none (.loop (loopOf cfx.P 76 1)) (pg_T nm gs cs zs n k m T U w g y a b r p q 0) (pg_H nm gs cs zs n k m T U w g y a b r p q 0) (.exit 2) (pgc_T1 nm gs cs zs n k m T U w g y a b r p q m) (pgc_H1 nm gs cs zs n k m T U w g y a b r p q m)) ∨ (M.apartB zs m = false ∧ ∃ i j : Nat, Runs cfx 0 4 none (.loop (loopOf cfx.P 76 1)) (pg_T nm gs cs zs n k m T U w g y a b r p q 0) (pg_H nm gs cs zs n k m T U w g y a b r p q 0) (.ret) (pgb_T1 nm gs cs zs n k m T U w g y a b r p q i j) (pgb_H1 nm gs cs zs n k m T U w g y a b r p q i j)) := by
  have hbad : ∀ i : Nat, i < m → (List.range i).all (M.apZ zs i) = false → ∃ j : Nat, Runs cfx 0 4 none (loopOf cfx.P 76 1) (pg_T nm gs cs zs n k m T U w g y a b r p q i) (pg_H nm gs cs zs n k m T U w g y a b r p q i) .ret (pgb_T1 nm gs cs zs n k m T U w g y a b r p q i j) (pgb_H1 nm gs cs zs n k m T U w g y a b r p q i j) := fun i hi hgd => by
    rcases ph_loop nm gs cs zs n k m T U w g y a b r p q hpo hr hz hm hw hg hd i hi with ⟨e1, _⟩ | ⟨_, j, e2⟩
    · rw [e1] at hgd; cases hgd
    · exact ⟨j, pgb_1 nm gs cs zs n k m T U w g y a b r p q hpo hr hz hm hw hg i zo zo j e2⟩
  rcases upto_find (c := cfx) (lim := 0) (n0 := 4) (x := loopOf cfx.P 76 1) noRnd (fun i => (List.range i).all (M.apZ zs i)) (fun i : Nat => pg_T nm gs cs zs n k m T U w g y a b r p q i) (fun i : Nat => pg_H nm gs cs zs n k m T U w g y a b r p q i) m (fun i : Nat => pgb_T1 nm gs cs zs n k m T U w g y a b r p q i (if h : i < m ∧ (List.range i).all (M.apZ zs i) = false then Classical.choose (hbad i h.1 h.2) else 0)) (fun i : Nat => pgb_H1 nm gs cs zs n k m T U w g y a b r p q i (if h : i < m ∧ (List.range i).all (M.apZ zs i) = false then Classical.choose (hbad i h.1 h.2) else 0)) (e := .exit 2) (e1 := .ret) (by simp) (by simp)
    (fun i hi hgd => by
      rcases ph_loop nm gs cs zs n k m T U w g y a b r p q hpo hr hz hm hw hg hd i hi with ⟨_, e2⟩ | ⟨e1, _⟩
      · exact pga_1 nm gs cs zs n k m T U w g y a b r p q hpo hr hz hm hw hg i zo zo e2
      · rw [e1] at hgd; cases hgd)
    (fun i hi hgd => by
      rw [dif_pos ⟨hi, hgd⟩]
      exact Classical.choose_spec (hbad i hi hgd))
    (pgc_1 nm gs cs zs n k m T U w g y a b r p q hpo hr hz hm hw hg m zo zo) with ⟨h1, h2⟩ | ⟨h1, i, hi, h2, h3, h4⟩
  · exact .inl ⟨h1, h2⟩
  · exact .inr ⟨h1, i, _, h4⟩
abbrev zq63 (nm : ByteArray) (w : Int) (g : Int) (y : Int) (n : Nat) (a : Int) (b : Int) (r : Int) (p : Int) (q : Int) (k : Nat) (m : Nat) : List V := (catV [lwA nm w g y n a b r p q k, .ptr 2 0, V.raw (.bool false), .slo 3 m] (anyR 4 13 (catV [.slo 3 m, iV (m : Int), iV (m : Int)] (anyR 20 50 []))))
abbrev zq65 (nm : ByteArray) (w : Int) (g : Int) (y : Int) (n : Nat) (a : Int) (b : Int) (r : Int) (p : Int) (q : Int) (k : Nat) (m : Nat) : List V := (catV [lwA nm w g y n a b r p q k, .ptr 2 0, V.raw (.bool false), .slo 3 m] (repU 6 (catV [.ptr 2 5, .ptr 2 7, iV r, V.raw (.bool (M.btw r 1 8192)), V.raw (.bool !M.btw r 1 8192), lwA nm w g y n a b r p q k, .slo 3 m, .slo 3 m, iV (m : Int), iV 0] (repU 50 []))))
abbrev zq1 (nm : ByteArray) (w : Int) (g : Int) (y : Int) (n : Nat) (a : Int) (b : Int) (r : Int) (p : Int) (q : Int) (k : Nat) (m : Nat) (gs : List Int) (T : Nat) (cs : List Int) (U : Nat) (zs : List Int) : Prop := Runs cfx 0 4 none (.loop (loopOf cfx.P 76 0)) (zq65 nm w g y n a b r p q k m) [bkG gs T, bkI cs U, bkW nm w g y n a b r p q k, some (.cells (ints zs) 46 (.row 3))] (Ex.exit 0) (zq63 nm w g y n a b r p q k m) [bkG gs T, bkI cs U, bkW nm w g y n a b r p q k, some (.cells (ints zs) 46 (.row 3))]
abbrev zq9 (nm : ByteArray) (w : Int) (g : Int) (y : Int) (n : Nat) (a : Int) (b : Int) (r : Int) (p : Int) (q : Int) (k : Nat) (m : Nat) : List V := (catV [lwA nm w g y n a b r p q k, .ptr 2 0, V.raw (.bool false), .slo 3 m] (anyR 4 13 (catV [.slo 3 m, iV (m : Int), iV (m : Int)] (anyR 20 30 (catV [.slo 3 m, iV (m : Int), iV 0] (anyR 53 17 []))))))
abbrev zq10 (nm : ByteArray) (w : Int) (g : Int) (y : Int) (n : Nat) (a : Int) (b : Int) (r : Int) (p : Int) (q : Int) (k : Nat) (m : Nat) : List V := (zq63 nm w g y n a b r p q k m)
abbrev zq11 (nm : ByteArray) (w : Int) (g : Int) (y : Int) (n : Nat) (a : Int) (b : Int) (r : Int) (p : Int) (q : Int) (k : Nat) (m : Nat) : List V := (catV [lwA nm w g y n a b r p q k, .ptr 2 0, V.raw (.bool false), .slo 3 m] (anyR 4 46 (catV [.slo 3 m, iV (m : Int), iV (m : Int)] (anyR 53 17 []))))
abbrev zq25 (nm : ByteArray) (w : Int) (g : Int) (y : Int) (n : Nat) (a : Int) (b : Int) (r : Int) (p : Int) (q : Int) (k : Nat) (m : Nat) : List V := (zq65 nm w g y n a b r p q k m)
abbrev zq36 (nm : ByteArray) (w : Int) (g : Int) (y : Int) (n : Nat) (a : Int) (b : Int) (r : Int) (p : Int) (q : Int) (k : Nat) (gs : List Int) (T : Nat) (cs : List Int) (U : Nat) (m : Nat) (zs : List Int) : Prop := Meets cfx 0 38 [lwA nm w g y n a b r p q k] [bkG gs T, bkI cs U, bkW nm w g y n a b r p q k] (.slo 3 m) [bkG gs T, bkI cs U, bkW nm w g y n a b r p q k, some (.cells (ints zs) 46 (.row 3))]
theorem postsFit_ok (nm : ByteArray) (gs cs zs : List Int) (n k m : Nat) (T U : Nat) (w g y a b r p q : Int) (hpo : (zq51 nm w g y n a b r p q k gs T cs U m zs)) (hr : M.btw r 1 8192 = true) (hz : zs.length = m * 3) (hm : m ≤ 100) (hw : -4194304 ≤ w ∧ w ≤ 4194304) (hg : -4194304 ≤ g ∧ g ≤ 4194304) (hR0 : Runs cfx 0 4 none (.loop (loopOf cfx.P 76 0)) (pf_T nm gs cs zs n k m T U w g y a b r p q 0) (pf_H nm gs cs zs n k m T U w g y a b r p q 0) (.exit 0) (pf_T4 nm gs cs zs n k m T U w g y a b r p q m) (pf_H4 nm gs cs zs n k m T U w g y a b r p q m)) (hR1 : Runs cfx 0 4 none (.loop (loopOf cfx.P 76 1)) (pg_T nm gs cs zs n k m T U w g y a b r p q 0) (pg_H nm gs cs zs n k m T U w g y a b r p q 0) (.exit 2) (pgc_T1 nm gs cs zs n k m T U w g y a b r p q m) (pgc_H1 nm gs cs zs n k m T U w g y a b r p q m))  : Meets cfx 0 76 [lwA nm w g y n a b r p q k] [bkG gs T, bkI cs U] (V.raw (.bool true)) [bkG gs T, bkI cs U] := by
  refine Meets.post (mev (ans := [Ans.go, Ans.ret (V.raw (.bool (M.btw r 1 8192))), zF, Ans.reth (.slo 3 m) (zq59 gs T cs U nm w g y n a b r p q k zs), Ans.loop (Ex.exit 0) (zq10 nm w g y n a b r p q k m) (zq59 gs T cs U nm w g y n a b r p q k zs), Ans.loop (Ex.exit 2) (zq11 nm w g y n a b r p q k m) (zq59 gs T cs U nm w g y n a b r p q k zs)]) (v := V.raw (.bool true)) (h' := (zq59 gs T cs U nm w g y n a b r p q k zs)) (cons := [(Ret cfx 83 [iV r, iV 1, iV 8192] (V.raw (.bool (M.btw r 1 8192)))), ((!M.btw r 1 8192) = false), ((zq36 nm w g y n a b r p q k gs T cs U m zs)), ((zq1 nm w g y n a b r p q k m gs T cs U zs)), (Runs cfx 0 4 none (.loop (loopOf cfx.P 76 1)) (zq9 nm w g y n a b r p q k m) (zq59 gs T cs U nm w g y n a b r p q k zs) (Ex.exit 2) (zq11 nm w g y n a b r p q k m) (zq59 gs T cs U nm w g y n a b r p q k zs))]) zk
    ⟨(lnBetween _ _ _), zdf, (by exact below2 (lim := 0) rfl rfl 0 1 (N := [some (.cells (ints zs) 46 (.row 3))]) hpo (mix_all _ _) (ints_all _) rfl (new_row _ _ _) rfl rfl zz), (by
      refine Runs.pre (fun b e => by cases e) (fun RT RH => ?_) (hR0)
      exact reshape2 (lim := 0) 4 (t := (zq25 nm w g y n a b r p q k m)) (h := (zq59 gs T cs U nm w g y n a b r p q k zs)) cfx_G rfl [] zk zk zdr RT RH), (by
      refine Runs.pre (fun b e => by cases e) (fun RT RH => ?_) (hR1)
      exact reshape2 (lim := 0) 4 (t := (zq9 nm w g y n a b r p q k m)) (h := (zq59 gs T cs U nm w g y n a b r p q k zs)) cfx_G rfl [] zk zk zdr RT RH), trivial⟩) zk zt0
abbrev zq12 (nm : ByteArray) (w : Int) (g : Int) (y : Int) (n : Nat) (a : Int) (b : Int) (r : Int) (p : Int) (q : Int) (k : Nat) (m : Nat) (i : Nat) : List V := (catV [lwA nm w g y n a b r p q k, .ptr 2 0, V.raw (.bool false), .slo 3 m] (anyR 4 13 (catV [.slo 3 m, iV (m : Int), iV (i : Int)] (anyR 20 50 []))))
theorem postsFit_bad1 (nm : ByteArray) (gs cs zs : List Int) (n k m : Nat) (T U : Nat) (w g y a b r p q : Int) (hpo : (zq51 nm w g y n a b r p q k gs T cs U m zs)) (hr : M.btw r 1 8192 = true) (hz : zs.length = m * 3) (hm : m ≤ 100) (hw : -4194304 ≤ w ∧ w ≤ 4194304) (hg : -4194304 ≤ g ∧ g ≤ 4194304) (i : Nat) (hR0 : Runs cfx 0 4 none (.loop (loopOf cfx.P 76 0)) (pf_T nm gs cs zs n k m T U w g y a b r p q 0) (pf_H nm gs cs zs n k m T U w g y a b r p q 0) (.ret) (pf_T1 nm gs cs zs n k m T U w g y a b r p q i) (pf_H1 nm gs cs zs n k m T U w g y a b r p q i))  : Meets cfx 0 76 [lwA nm w g y n a b r p q k] [bkG gs T, bkI cs U] (V.raw (.bool false)) [bkG gs T, bkI cs U] := by
  refine Meets.post (mev (ans := [Ans.go, Ans.ret (V.raw (.bool (M.btw r 1 8192))), zF, Ans.reth (.slo 3 m) (zq59 gs T cs U nm w g y n a b r p q k zs), Ans.loop Ex.ret (zq12 nm w g y n a b r p q k m i) (zq59 gs T cs U nm w g y n a b r p q k zs)]) (v := V.raw (.bool false)) (h' := (zq59 gs T cs U nm w g y n a b r p q k zs)) (cons := [(Ret cfx 83 [iV r, iV 1, iV 8192] (V.raw (.bool (M.btw r 1 8192)))), ((!M.btw r 1 8192) = false), ((zq36 nm w g y n a b r p q k gs T cs U m zs)), (Runs cfx 0 4 none (.loop (loopOf cfx.P 76 0)) (zq25 nm w g y n a b r p q k m) (zq59 gs T cs U nm w g y n a b r p q k zs) (Ex.ret) (zq12 nm w g y n a b r p q k m i) (zq59 gs T cs U nm w g y n a b r p q k zs))]) zk
    ⟨(lnBetween _ _ _), zdf, (by exact below2 (lim := 0) rfl rfl 0 1 (N := [some (.cells (ints zs) 46 (.row 3))]) hpo (mix_all _ _) (ints_all _) rfl (new_row _ _ _) rfl rfl zz), (by
      refine Runs.pre (fun b e => by cases e) (fun RT RH => ?_) (hR0)
      exact reshape2 (lim := 0) 4 (t := (zq25 nm w g y n a b r p q k m)) (h := (zq59 gs T cs U nm w g y n a b r p q k zs)) cfx_G rfl [] zk zk zdr RT RH), trivial⟩) zk zt0
abbrev zq13 (nm : ByteArray) (w : Int) (g : Int) (y : Int) (n : Nat) (a : Int) (b : Int) (r : Int) (p : Int) (q : Int) (k : Nat) (m : Nat) (i : Nat) : List V := (catV [lwA nm w g y n a b r p q k, .ptr 2 0, V.raw (.bool false), .slo 3 m] (anyR 4 46 (catV [.slo 3 m, iV (m : Int), iV (i : Int)] (anyR 53 17 []))))
theorem postsFit_bad2 (nm : ByteArray) (gs cs zs : List Int) (n k m : Nat) (T U : Nat) (w g y a b r p q : Int) (hpo : (zq51 nm w g y n a b r p q k gs T cs U m zs)) (hr : M.btw r 1 8192 = true) (hz : zs.length = m * 3) (hm : m ≤ 100) (hw : -4194304 ≤ w ∧ w ≤ 4194304) (hg : -4194304 ≤ g ∧ g ≤ 4194304) (i j : Nat) (hR0 : Runs cfx 0 4 none (.loop (loopOf cfx.P 76 0)) (pf_T nm gs cs zs n k m T U w g y a b r p q 0) (pf_H nm gs cs zs n k m T U w g y a b r p q 0) (.exit 0) (pf_T4 nm gs cs zs n k m T U w g y a b r p q m) (pf_H4 nm gs cs zs n k m T U w g y a b r p q m)) (hR1 : Runs cfx 0 4 none (.loop (loopOf cfx.P 76 1)) (pg_T nm gs cs zs n k m T U w g y a b r p q 0) (pg_H nm gs cs zs n k m T U w g y a b r p q 0) (.ret) (pgb_T1 nm gs cs zs n k m T U w g y a b r p q i j) (pgb_H1 nm gs cs zs n k m T U w g y a b r p q i j))  : Meets cfx 0 76 [lwA nm w g y n a b r p q k] [bkG gs T, bkI cs U] (V.raw (.bool false)) [bkG gs T, bkI cs U] := by
  refine Meets.post (mev (ans := [Ans.go, Ans.ret (V.raw (.bool (M.btw r 1 8192))), zF, Ans.reth (.slo 3 m) (zq59 gs T cs U nm w g y n a b r p q k zs), Ans.loop (Ex.exit 0) (zq10 nm w g y n a b r p q k m) (zq59 gs T cs U nm w g y n a b r p q k zs), Ans.loop Ex.ret (zq13 nm w g y n a b r p q k m i) (zq59 gs T cs U nm w g y n a b r p q k zs)]) (v := V.raw (.bool false)) (h' := (zq59 gs T cs U nm w g y n a b r p q k zs)) (cons := [(Ret cfx 83 [iV r, iV 1, iV 8192] (V.raw (.bool (M.btw r 1 8192)))), ((!M.btw r 1 8192) = false), ((zq36 nm w g y n a b r p q k gs T cs U m zs)), ((zq1 nm w g y n a b r p q k m gs T cs U zs)), (Runs cfx 0 4 none (.loop (loopOf cfx.P 76 1)) (zq9 nm w g y n a b r p q k m) (zq59 gs T cs U nm w g y n a b r p q k zs) (Ex.ret) (zq13 nm w g y n a b r p q k m i) (zq59 gs T cs U nm w g y n a b r p q k zs))]) zk
    ⟨(lnBetween _ _ _), zdf, (by exact below2 (lim := 0) rfl rfl 0 1 (N := [some (.cells (ints zs) 46 (.row 3))]) hpo (mix_all _ _) (ints_all _) rfl (new_row _ _ _) rfl rfl zz), (by
      refine Runs.pre (fun b e => by cases e) (fun RT RH => ?_) (hR0)
      exact reshape2 (lim := 0) 4 (t := (zq25 nm w g y n a b r p q k m)) (h := (zq59 gs T cs U nm w g y n a b r p q k zs)) cfx_G rfl [] zk zk zdr RT RH), (by
      refine Runs.pre (fun b e => by cases e) (fun RT RH => ?_) (hR1)
      exact reshape2 (lim := 0) 4 (t := (zq9 nm w g y n a b r p q k m)) (h := (zq59 gs T cs U nm w g y n a b r p q k zs)) cfx_G rfl [] zk zk zdr RT RH), trivial⟩) zk zt0
theorem postsFit_peg (hr : M.btw r 1 8192 = false)  : Meets cfx 0 76 [lwA nm w g y n a b r p q k] [bkG gs T, bkI cs U] (V.raw (.bool false)) [bkG gs T, bkI cs U] := by
  refine Meets.post (mev (ans := [Ans.go, Ans.ret (V.raw (.bool (M.btw r 1 8192))), zT]) (v := V.raw (.bool false)) (h' := [bkG gs T, bkI cs U, bkW nm w g y n a b r p q k]) (cons := [(Ret cfx 83 [iV r, iV 1, iV 8192] (V.raw (.bool (M.btw r 1 8192)))), ((!M.btw r 1 8192) = true)]) zk
    ⟨(lnBetween _ _ _), zdf, trivial⟩) zk zt0
theorem postsFit_all (nm : ByteArray) (gs cs zs : List Int) (n k m : Nat) (T U : Nat) (w g y a b r p q : Int) (hpo : (zq51 nm w g y n a b r p q k gs T cs U m zs)) (hr : M.btw r 1 8192 = true) (hz : zs.length = m * 3) (hm : m ≤ 100) (hw : -4194304 ≤ w ∧ w ≤ 4194304) (hg : -4194304 ≤ g ∧ g ≤ 4194304) (hrad : ∀ j : Nat, j < m → 1 ≤ at' zs (j * 3 + 2) ∧ at' zs (j * 3 + 2) ≤ 8192) (hw2 : w ≤ 4194304) (hg2 : g ≤ 4194304) : Meets cfx 0 76 [lwA nm w g y n a b r p q k] [bkG gs T, bkI cs U] (.raw (.bool (M.fitsB w g zs m && M.apartB zs m))) [bkG gs T, bkI cs U] := by
  rcases pf_loop nm gs cs zs n k m T U w g y a b r p q hpo hr hz hm hw hg (fun i hi => by have := hrad i hi; omega) with ⟨e1, e2⟩ | ⟨e1, i, e2⟩
  · rw [e1, Bool.true_and]
    rcases pg_loop nm gs cs zs n k m T U w g y a b r p q hpo hr hz hm hw hg (M.fits_disc hw2 hg2 e1 hrad) with ⟨e3, e4⟩ | ⟨e3, i, j, e4⟩
    · rw [e3]; exact postsFit_ok nm gs cs zs n k m T U w g y a b r p q hpo hr hz hm hw hg e2 e4
    · rw [e3]; exact postsFit_bad2 nm gs cs zs n k m T U w g y a b r p q hpo hr hz hm hw hg i j e2 e4
  · rw [e1, Bool.false_and]
    exact postsFit_bad1 nm gs cs zs n k m T U w g y a b r p q hpo hr hz hm hw hg i e2
def M.sidesB (w g y : Int) : Bool := M.btw w 65536 4194304 && M.btw g 65536 4194304 && M.btw y 0 ((min w g).tdiv 4)
theorem sides0 (h1 : M.btw w 65536 4194304 = false)  : Meets cfx 0 73 [lwA nm w g y n a b r p q k] [bkG gs T, bkI cs U] (V.raw (.bool false)) [bkG gs T, bkI cs U] := by
  refine Meets.post (mev (ans := [Ans.go, Ans.ret (V.raw (.bool (M.btw w 65536 4194304))), zF, zF, zF, zF]) (v := V.raw (.bool false)) (h' := [bkG gs T, bkI cs U, bkW nm w g y n a b r p q k]) (cons := [(Ret cfx 83 [iV w, iV 65536, iV 4194304] (V.raw (.bool (M.btw w 65536 4194304)))), (M.btw w 65536 4194304 = false), zN, zN, zN]) zk
    ⟨(lnBetween _ _ _), zdf, rfl, rfl, rfl, trivial⟩) zk zt0
theorem sides1 (h1 : M.btw w 65536 4194304 = true) (h2 : M.btw g 65536 4194304 = false)  : Meets cfx 0 73 [lwA nm w g y n a b r p q k] [bkG gs T, bkI cs U] (V.raw (.bool false)) [bkG gs T, bkI cs U] := by
  refine Meets.post (mev (ans := [Ans.go, Ans.ret (V.raw (.bool (M.btw w 65536 4194304))), zT, Ans.ret (V.raw (.bool (M.btw g 65536 4194304))), zT, zF, zF]) (v := V.raw (.bool false)) (h' := [bkG gs T, bkI cs U, bkW nm w g y n a b r p q k]) (cons := [(Ret cfx 83 [iV w, iV 65536, iV 4194304] (V.raw (.bool (M.btw w 65536 4194304)))), (M.btw w 65536 4194304 = true), (Ret cfx 83 [iV g, iV 65536, iV 4194304] (V.raw (.bool (M.btw g 65536 4194304)))), zY, (M.btw g 65536 4194304 = false), zN]) zk
    ⟨(lnBetween _ _ _), zdf, (lnBetween _ _ _), rfl, zdf, rfl, trivial⟩) zk zt0
theorem sides2_1 (h1 : M.btw w 65536 4194304 = true) (h2 : M.btw g 65536 4194304 = true) (h3 : ¬ g < w) (hw : 65536 ≤ w ∧ w ≤ 4194304) (hg : 65536 ≤ g ∧ g ≤ 4194304) (h4 : -9000000 ≤ (if g < w then g else w).tdiv 4 ∧ (if g < w then g else w).tdiv 4 ≤ 9000000)  : Meets cfx 0 73 [lwA nm w g y n a b r p q k] [bkG gs T, bkI cs U] (V.raw (.bool (M.btw y 0 ((if g < w then g else w).tdiv 4)))) [bkG gs T, bkI cs U] := by
  refine Meets.post (mev (ans := [Ans.go, Ans.ret (V.raw (.bool (M.btw w 65536 4194304))), zT, Ans.ret (V.raw (.bool (M.btw g 65536 4194304))), zT, zT, Ans.ret (V.raw (.bool (M.btw y 0 ((if g < w then g else w).tdiv 4)))), zT]) (v := V.raw (.bool (M.btw y 0 ((if g < w then g else w).tdiv 4)))) (h' := [bkG gs T, bkI cs U, bkW nm w g y n a b r p q k]) (cons := [(Ret cfx 83 [iV w, iV 65536, iV 4194304] (V.raw (.bool (M.btw w 65536 4194304)))), (M.btw w 65536 4194304 = true), (Ret cfx 83 [iV g, iV 65536, iV 4194304] (V.raw (.bool (M.btw g 65536 4194304)))), zY, (M.btw g 65536 4194304 = true), ((4 : Int) ≠ (0 : Int)), (inR IntKind.i64 ((if g < w then g else w).tdiv 4)), (Ret cfx 83 [iV y, iV 0, iV ((if g < w then g else w).tdiv 4)] (V.raw (.bool (M.btw y 0 ((if g < w then g else w).tdiv 4))))), zY]) zk
    ⟨(lnBetween _ _ _), zdf, (lnBetween _ _ _), rfl, zdf, zds, inR_i64 zo zo, (lnBetween _ _ _), rfl, trivial⟩) zk zt0
theorem sides2 (h1 : M.btw w 65536 4194304 = true) (h2 : M.btw g 65536 4194304 = true) (h3 : ¬ g < w) (hw : 65536 ≤ w ∧ w ≤ 4194304) (hg : 65536 ≤ g ∧ g ≤ 4194304) (h4 : -9000000 ≤ (if g < w then g else w).tdiv 4 ∧ (if g < w then g else w).tdiv 4 ≤ 9000000) : Meets cfx 0 73 [lwA nm w g y n a b r p q k] [bkG gs T, bkI cs U] (.raw (.bool (M.btw y 0 (w.tdiv 4)))) [bkG gs T, bkI cs U] := by
  have e : (.raw (.bool (M.btw y 0 (w.tdiv 4))) : V) = V.raw (.bool (M.btw y 0 ((if g < w then g else w).tdiv 4))) := by (simp [h3])
  rw [e]
  exact sides2_1 nm gs cs n k T U w g y a b r p q h1 h2 h3 hw hg h4
theorem sides3_1 (h1 : M.btw w 65536 4194304 = true) (h2 : M.btw g 65536 4194304 = true) (h3 : g < w) (hw : 65536 ≤ w ∧ w ≤ 4194304) (hg : 65536 ≤ g ∧ g ≤ 4194304) (h4 : -9000000 ≤ (if g < w then g else w).tdiv 4 ∧ (if g < w then g else w).tdiv 4 ≤ 9000000)  : Meets cfx 0 73 [lwA nm w g y n a b r p q k] [bkG gs T, bkI cs U] (V.raw (.bool (M.btw y 0 ((if g < w then g else w).tdiv 4)))) [bkG gs T, bkI cs U] := by
  refine Meets.post (mev (ans := [Ans.go, Ans.ret (V.raw (.bool (M.btw w 65536 4194304))), zT, Ans.ret (V.raw (.bool (M.btw g 65536 4194304))), zT, zT, Ans.ret (V.raw (.bool (M.btw y 0 ((if g < w then g else w).tdiv 4)))), zT]) (v := V.raw (.bool (M.btw y 0 ((if g < w then g else w).tdiv 4)))) (h' := [bkG gs T, bkI cs U, bkW nm w g y n a b r p q k]) (cons := [(Ret cfx 83 [iV w, iV 65536, iV 4194304] (V.raw (.bool (M.btw w 65536 4194304)))), (M.btw w 65536 4194304 = true), (Ret cfx 83 [iV g, iV 65536, iV 4194304] (V.raw (.bool (M.btw g 65536 4194304)))), zY, (M.btw g 65536 4194304 = true), ((4 : Int) ≠ (0 : Int)), (inR IntKind.i64 ((if g < w then g else w).tdiv 4)), (Ret cfx 83 [iV y, iV 0, iV ((if g < w then g else w).tdiv 4)] (V.raw (.bool (M.btw y 0 ((if g < w then g else w).tdiv 4))))), zY]) zk
    ⟨(lnBetween _ _ _), zdf, (lnBetween _ _ _), rfl, zdf, zds, inR_i64 zo zo, (lnBetween _ _ _), rfl, trivial⟩) zk zt0
theorem sides3 (h1 : M.btw w 65536 4194304 = true) (h2 : M.btw g 65536 4194304 = true) (h3 : g < w) (hw : 65536 ≤ w ∧ w ≤ 4194304) (hg : 65536 ≤ g ∧ g ≤ 4194304) (h4 : -9000000 ≤ (if g < w then g else w).tdiv 4 ∧ (if g < w then g else w).tdiv 4 ≤ 9000000) : Meets cfx 0 73 [lwA nm w g y n a b r p q k] [bkG gs T, bkI cs U] (.raw (.bool (M.btw y 0 (g.tdiv 4)))) [bkG gs T, bkI cs U] := by
  have e : (.raw (.bool (M.btw y 0 (g.tdiv 4))) : V) = V.raw (.bool (M.btw y 0 ((if g < w then g else w).tdiv 4))) := by (simp [h3])
  rw [e]
  exact sides3_1 nm gs cs n k T U w g y a b r p q h1 h2 h3 hw hg h4
theorem lnSides : Meets cfx 0 73 [lwA nm w g y n a b r p q k] [bkG gs T, bkI cs U] (.raw (.bool (M.sidesB w g y))) [bkG gs T, bkI cs U] := by
  unfold M.sidesB
  cases h1 : M.btw w 65536 4194304 with
  | false => exact sides0 nm gs cs n k T U w g y a b r p q h1
  | true =>
  cases h2 : M.btw g 65536 4194304 with
  | false => exact sides1 nm gs cs n k T U w g y a b r p q h1 h2
  | true =>
  have hw := (M.btw_iff ..).1 h1
  have hg := (M.btw_iff ..).1 h2
  by_cases h3 : g < w
  · rw [show min w g = g by omega]
    exact sides3 nm gs cs n k T U w g y a b r p q h1 h2 h3 hw hg (by rw [if_pos h3, Int.tdiv_eq_ediv_of_nonneg (by omega)]; omega)
  · rw [show min w g = w by omega]
    exact sides2 nm gs cs n k T U w g y a b r p q h1 h2 h3 hw hg (by rw [if_neg h3, Int.tdiv_eq_ediv_of_nonneg (by omega)]; omega)
end Go.Proofs.YtgjbdlahjbppoaaDoor
end
section
namespace Go.Proofs.YtgjbdlahjbppoaaDoor
open Go.ChangeShapes Go.WideShapes Go.ChangeAt Go.RowKit
def M.nameC (n : Nat) : Prop := (97 ≤ n ∧ n ≤ 122) ∨ (48 ≤ n ∧ n ≤ 57)
def M.nameP (s : ByteArray) : Prop := 1 ≤ s.size ∧ s.size ≤ 20 ∧ ∀ k (h : k < s.size), M.nameC s[k].toNat
theorem M.name_step {s : ByteArray} {k : Nat} (hlt : k < s.size) (h : ∀ j (h : j < s.size), j < k → M.nameC s[j].toNat) (hc : M.nameC s[k].toNat) : ∀ j (h : j < s.size), j < k + 1 → M.nameC s[j].toNat := fun j hj hk => by
  rcases Nat.lt_or_ge j k with q | q
  · exact h j hj q
  · obtain rfl : j = k := by omega
    exact hc
end Go.Proofs.YtgjbdlahjbppoaaDoor
end
section
namespace Go.Proofs.YtgjbdlahjbppoaaDoor
open Go.ChangeShapes Go.WideShapes Go.ChangeAt Go.RowKit
set_option maxHeartbeats 4000000 in
theorem isName_any (s : ByteArray) (b : Bool) (w : World) (hs : s.size ≤ 100) (hb : b = true ↔ M.nameP s) :
    Calls Tryd.prog 72 #[.string s] w fun e w' => e = .returned (.bool b) ∧ Below w.heap.size w w' := by
  have HB := Lib.hid hb
  by_cases h1 : 1 ≤ s.size
  · by_cases h2 : s.size ≤ 20
    · have i1 : ¬ (s.size : Int) < 1 := by omega
      have i2 : ¬ 20 < (s.size : Int) := by omega
      go_enter Tryd.func72, Tryd.ntmps72
      go_wp2
      simp only [run_bytes_of_string w 9 180 5 s Tryd.underlying9 Tryd.underlying180 Tryd.underlying5]
      have hrow : ∀ j (h : j < s.size), (w.drew.alloc (.cells (bytesRow s (grownCap w s.size 0 5)) 5 ((bytesRow s (grownCap w s.size 0 5)).size, (bytesRow s (grownCap w s.size 0 5)).size + 1))).cell? ⟨w.heap.size, j, none⟩ = some (.int .u8 (s[j].toNat : Int)) := fun j h =>
        (World.cell?_alloc_mark w.drew _ _ _ j).trans (bytesRow_at s _ j h)
      have hB1 : Below w.heap.size w (w.drew.alloc (.cells (bytesRow s (grownCap w s.size 0 5)) 5 ((bytesRow s (grownCap w s.size 0 5)).size, (bytesRow s (grownCap w s.size 0 5)).size + 1))) := by go_grown
      have hz1 : (w.drew.alloc (.cells (bytesRow s (grownCap w s.size 0 5)) 5 ((bytesRow s (grownCap w s.size 0 5)).size, (bytesRow s (grownCap w s.size 0 5)).size + 1))).heap.size = w.heap.size + 1 := by simp
      generalize w.drew.alloc (.cells (bytesRow s (grownCap w s.size 0 5)) 5 ((bytesRow s (grownCap w s.size 0 5)).size, (bytesRow s (grownCap w s.size 0 5)).size + 1)) = W1 at *
      generalize grownCap w s.size 0 5 = cap at *
      have HR := Lib.hid hrow
      have HB1 := Lib.hid hB1
      clear hrow hB1
      go_wp2
      go_loopw [16] (fun i wr => ∃ k : Nat, k ≤ s.size ∧ i = .int .i64 k ∧ Below W1.heap.size W1 wr ∧ Below w.heap.size w wr ∧ ∀ j (h : j < s.size), j < k → M.nameC s[j].toNat) (fun i _ => s.size - (intOf i).toNat)
      case atStart => exact ⟨0, by omega, rfl, Below.refl _ _, HB1.out, fun j _ h => absurd h (by omega)⟩
      case round =>
        obtain ⟨k, hk, rfl, hBk, hBr, hpre⟩ := hrel
        have HBK := Lib.hid hBk
        have HP := Lib.hid hpre
        clear hpre
        by_cases hlt : k < s.size
        · have hlt1 : (k : Int) < s.size := by omega
          have HX := Lib.hid (fun h : M.nameC s[k].toNat => M.name_step hlt HP.out h)
          have HY := Lib.hid (fun h : M.nameP s => h.2.2 k hlt)
          have hcell := (hBk.cell (p := ⟨w.heap.size, k, none⟩) (by simp only []; omega)).trans (HR.out k hlt)
          clear hBk
          rcases (by omega : (97 ≤ s[k].toNat ∧ s[k].toNat ≤ 122) ∨ 122 < s[k].toNat ∨ (s[k].toNat < 97 ∧ 48 ≤ s[k].toNat ∧ s[k].toNat ≤ 57) ∨ s[k].toNat < 48 ∨ (57 < s[k].toNat ∧ s[k].toNat < 97)) with ⟨c1, c2⟩ | c1 | ⟨c1, c2, c3⟩ | c1 | ⟨c1, c2⟩
          · have d1 : ¬ (s[k].toNat : Int) < 97 := by omega
            have d2 : ¬ 122 < (s[k].toNat : Int) := by omega
            have HC := Lib.hid (HX.out (.inl ⟨c1, c2⟩))
            clear c1 c2
            go_wp2
            exact ⟨⟨k + 1, by omega, by go_num, HBK.out, hBr, HC.out⟩, by simp [intOf]; omega⟩
          · have d1 : ¬ (s[k].toNat : Int) < 97 := by omega
            have d2 : 122 < (s[k].toNat : Int) := by omega
            have d3 : ¬ (s[k].toNat : Int) < 48 := by omega
            have d4 : 57 < (s[k].toNat : Int) := by omega
            have hF := Lib.hid (show b = false by cases b with | false => rfl | true => exact absurd (HY.out (HB.out.1 rfl)) (by unfold M.nameC; omega))
            clear c1
            go_wp2
            go_returns
            exact ⟨by rw [hF.out]; rfl, hBr⟩
          · have d1 : (s[k].toNat : Int) < 97 := by omega
            have d3 : ¬ (s[k].toNat : Int) < 48 := by omega
            have d4 : ¬ 57 < (s[k].toNat : Int) := by omega
            have HC := Lib.hid (HX.out (.inr ⟨c2, c3⟩))
            clear c1 c2 c3
            go_wp2
            exact ⟨⟨k + 1, by omega, by go_num, HBK.out, hBr, HC.out⟩, by simp [intOf]; omega⟩
          · have d1 : (s[k].toNat : Int) < 97 := by omega
            have d3 : (s[k].toNat : Int) < 48 := by omega
            have hF := Lib.hid (show b = false by cases b with | false => rfl | true => exact absurd (HY.out (HB.out.1 rfl)) (by unfold M.nameC; omega))
            clear c1
            go_wp2
            go_returns
            exact ⟨by rw [hF.out]; rfl, hBr⟩
          · have d1 : (s[k].toNat : Int) < 97 := by omega
            have d3 : ¬ (s[k].toNat : Int) < 48 := by omega
            have d4 : 57 < (s[k].toNat : Int) := by omega
            have hF := Lib.hid (show b = false by cases b with | false => rfl | true => exact absurd (HY.out (HB.out.1 rfl)) (by unfold M.nameC; omega))
            clear c1 c2
            go_wp2
            go_returns
            exact ⟨by rw [hF.out]; rfl, hBr⟩
        · have hlt1 : ¬ (k : Int) < s.size := by omega
          have hT := Lib.hid (show b = true from HB.out.2 ⟨h1, h2, fun j hj => HP.out j hj (by omega)⟩)
          clear hlt
          go_wp2
          go_returns
          exact ⟨by rw [hT.out]; rfl, hBr⟩
    · have i2 : 20 < (s.size : Int) := by omega
      have i1 : ¬ (s.size : Int) < 1 := by omega
      have hF := Lib.hid (show b = false by cases b with | false => rfl | true => exact absurd (hb.1 rfl).2.1 h2)
      clear h2 hb
      go_enter Tryd.func72, Tryd.ntmps72
      go_wp2
      go_returns
      exact ⟨by rw [hF.out]; rfl, by go_grown⟩
  · have i1 : (s.size : Int) < 1 := by omega
    have hF := Lib.hid (show b = false by cases b with | false => rfl | true => exact absurd (hb.1 rfl).1 h1)
    clear h1 hb
    go_enter Tryd.func72, Tryd.ntmps72
    go_wp2
    go_returns
    exact ⟨by rw [hF.out]; rfl, by go_grown⟩
end Go.Proofs.YtgjbdlahjbppoaaDoor
end
section
namespace Go.Proofs.YtgjbdlahjbppoaaDoor
open Go Go.RowKit Go.Proofs.YtgjbdlahjbppoaaDoor.E2
def M.charB (n : Nat) : Bool := (decide (97 ≤ n) && decide (n ≤ 122)) || (decide (48 ≤ n) && decide (n ≤ 57))
def M.nameB (s : ByteArray) : Bool := decide (1 ≤ s.size) && decide (s.size ≤ 20) && (List.range s.size).all fun k => if h : k < s.size then M.charB s[k].toNat else true
theorem M.nameB_iff (s : ByteArray) : M.nameB s = true ↔ M.nameP s := by
  unfold M.nameB M.nameP
  simp only [Bool.and_eq_true, decide_eq_true_eq, List.all_eq_true, List.mem_range, and_assoc]
  refine and_congr_right fun _ => and_congr_right fun _ => ⟨fun h k hk => ?_, fun h k hk => ?_⟩
  · have := h k hk
    rw [dif_pos hk] at this
    simpa [M.charB, M.nameC] using this
  · rw [dif_pos hk]
    simpa [M.charB, M.nameC] using h k hk
theorem lnIsName (s : ByteArray) (hs : s.size ≤ 100) : Ret cfx 72 [.raw (.string s)] (.raw (.bool (M.nameB s))) :=
  fn_of_calls (args := [.string s]) fun w => isName_any s _ w hs (M.nameB_iff s)
variable (nm : ByteArray) (gs cs : List Int) (n k : Nat) (T U : Nat) (w g y a b r p q : Int)
theorem check_many0 (h1 : n = 0)  : Meets cfx 0 37 [lwA nm w g y n a b r p q k] [bkG gs T, bkI cs U] (iV 6) [bkG gs T, bkI cs U] := by
  refine Meets.post (mev (ans := [Ans.go, zT, zT, zT, zT, zT]) (v := (iV 6)) (h' := [bkG gs T, bkI cs U, bkW nm w g y n a b r p q k]) (cons := [(decide ((n : Int) < 1) = true), zY, zY, zY, zY]) zk
    ⟨zdo, rfl, rfl, rfl, rfl, trivial⟩) zk zt0
theorem check_many1 (h1 : 1 ≤ n) (h2 : 12 < n) (hb : n ≤ 1000000000)  : Meets cfx 0 37 [lwA nm w g y n a b r p q k] [bkG gs T, bkI cs U] (iV 6) [bkG gs T, bkI cs U] := by
  refine Meets.post (mev (ans := [Ans.go, zF, zF, zT, zT, zT]) (v := (iV 6)) (h' := [bkG gs T, bkI cs U, bkW nm w g y n a b r p q k]) (cons := [(decide ((n : Int) < 1) = false), zN, (decide (12 < (n : Int)) = true), zY, zY]) zk
    ⟨zdo, rfl, zdo, rfl, rfl, trivial⟩) zk zt0
theorem check_many2 (h1 : 1 ≤ n) (h2 : n ≤ 12) (h3 : 256 < k) (hb : k ≤ 1000000000)  : Meets cfx 0 37 [lwA nm w g y n a b r p q k] [bkG gs T, bkI cs U] (iV 6) [bkG gs T, bkI cs U] := by
  refine Meets.post (mev (ans := [Ans.go, zF, zF, zF, zF, zT]) (v := (iV 6)) (h' := [bkG gs T, bkI cs U, bkW nm w g y n a b r p q k]) (cons := [(decide ((n : Int) < 1) = false), zN, (decide (12 < (n : Int)) = false), zN, (decide (256 < (k : Int)) = true)]) zk
    ⟨zdo, rfl, zdo, rfl, zdo, trivial⟩) zk zt0
theorem check_name (hz : n * 5 ≤ gs.length) (hzc : k * 3 ≤ cs.length) (hn : 1 ≤ n ∧ n ≤ 12) (hk : k ≤ 256) (hnm : nm.size ≤ 100) (h1 : M.nameB nm = false)  : Meets cfx 0 37 [lwA nm w g y n a b r p q k] [bkG gs T, bkI cs U] (iV 2) [bkG gs T, bkI cs U] := by
  refine Meets.post (mev (ans := [Ans.go, zF, zF, zF, zF, zF, Ans.ret (V.raw (.bool (M.nameB nm))), zT, zT, zT, zT, zT, zT, zT, zT, zT]) (v := (iV 2)) (h' := [bkG gs T, bkI cs U, bkW nm w g y n a b r p q k]) (cons := [(decide ((n : Int) < 1) = false), zN, (decide (12 < (n : Int)) = false), zN, (decide (256 < (k : Int)) = false), (Ret cfx 72 [V.raw (Value.string nm)] (V.raw (.bool (M.nameB nm)))), ((!M.nameB nm) = true), zY, zY, zY, zY, zY, zY, zY, zY]) zk
    ⟨zdo, rfl, zdo, rfl, zdo, (lnIsName _ hnm), zdf, rfl, rfl, rfl, rfl, rfl, rfl, rfl, rfl, trivial⟩) zk zt0
abbrev zq39 (nm : ByteArray) (w : Int) (g : Int) (y : Int) (n : Nat) (a : Int) (b : Int) (r : Int) (p : Int) (q : Int) (k : Nat) (gs : List Int) (T : Nat) (cs : List Int) (U : Nat) : Prop := Meets cfx 0 73 [lwA nm w g y n a b r p q k] [bkG gs T, bkI cs U, bkW nm w g y n a b r p q k] (V.raw (.bool (M.sidesB w g y))) [bkG gs T, bkI cs U, bkW nm w g y n a b r p q k]
theorem check_side (hz : n * 5 ≤ gs.length) (hzc : k * 3 ≤ cs.length) (hn : 1 ≤ n ∧ n ≤ 12) (hk : k ≤ 256) (hnm : nm.size ≤ 100) (h1 : M.nameB nm = true) (h2 : M.sidesB w g y = false)  : Meets cfx 0 37 [lwA nm w g y n a b r p q k] [bkG gs T, bkI cs U] (iV 2) [bkG gs T, bkI cs U] := by
  refine Meets.post (mev (ans := [Ans.go, zF, zF, zF, zF, zF, Ans.ret (V.raw (.bool (M.nameB nm))), zF, Ans.reth (V.raw (.bool (M.sidesB w g y))) [bkG gs T, bkI cs U, bkW nm w g y n a b r p q k], zF, zT, zT, zT, zT, zT, zT, zT]) (v := (iV 2)) (h' := [bkG gs T, bkI cs U, bkW nm w g y n a b r p q k]) (cons := [(decide ((n : Int) < 1) = false), zN, (decide (12 < (n : Int)) = false), zN, (decide (256 < (k : Int)) = false), (Ret cfx 72 [V.raw (Value.string nm)] (V.raw (.bool (M.nameB nm)))), ((!M.nameB nm) = false), ((zq39 nm w g y n a b r p q k gs T cs U)), zN, ((!M.sidesB w g y) = true), zY, zY, zY, zY, zY, zY]) zk
    ⟨zdo, rfl, zdo, rfl, zdo, (lnIsName _ hnm), zdf, (by exact below2 (lim := 0) rfl rfl 0 1 (N := []) (lnSides nm gs cs n k T U w g y a b r p q) (mix_all _ _) (ints_all _) rfl zn rfl rfl zz), rfl, zdf, rfl, rfl, rfl, rfl, rfl, rfl, trivial⟩) zk zt0
abbrev zq45 (n : Nat) (gs : List Int) (T : Nat) (cs : List Int) (U : Nat) (nm : ByteArray) (w : Int) (g : Int) (y : Int) (a : Int) (b : Int) (r : Int) (p : Int) (q : Int) (k : Nat) : Prop := Meets cfx 0 74 [.slo 0 n] [bkG gs T, bkI cs U, bkW nm w g y n a b r p q k] (V.raw (.bool (M.hoopsB gs n))) [bkG gs T, bkI cs U, bkW nm w g y n a b r p q k]
theorem check_hoop (hz : n * 5 ≤ gs.length) (hzc : k * 3 ≤ cs.length) (hn : 1 ≤ n ∧ n ≤ 12) (hk : k ≤ 256) (hnm : nm.size ≤ 100) (h1 : M.nameB nm = true) (h2 : M.sidesB w g y = true) (h3 : M.hoopsB gs n = false)  : Meets cfx 0 37 [lwA nm w g y n a b r p q k] [bkG gs T, bkI cs U] (iV 2) [bkG gs T, bkI cs U] := by
  refine Meets.post (mev (ans := [Ans.go, zF, zF, zF, zF, zF, Ans.ret (V.raw (.bool (M.nameB nm))), zF, Ans.reth (V.raw (.bool (M.sidesB w g y))) [bkG gs T, bkI cs U, bkW nm w g y n a b r p q k], zF, zF, Ans.reth (V.raw (.bool (M.hoopsB gs n))) [bkG gs T, bkI cs U, bkW nm w g y n a b r p q k], zF, zT, zT, zT, zT, zT]) (v := (iV 2)) (h' := [bkG gs T, bkI cs U, bkW nm w g y n a b r p q k]) (cons := [(decide ((n : Int) < 1) = false), zN, (decide (12 < (n : Int)) = false), zN, (decide (256 < (k : Int)) = false), (Ret cfx 72 [V.raw (Value.string nm)] (V.raw (.bool (M.nameB nm)))), ((!M.nameB nm) = false), ((zq39 nm w g y n a b r p q k gs T cs U)), zN, ((!M.sidesB w g y) = false), ((zq45 n gs T cs U nm w g y a b r p q k)), zN, ((!M.hoopsB gs n) = true), zY, zY, zY, zY]) zk
    ⟨zdo, rfl, zdo, rfl, zdo, (lnIsName _ hnm), zdf, (by exact below2 (lim := 0) rfl rfl 0 1 (N := []) (lnSides nm gs cs n k T U w g y a b r p q) (mix_all _ _) (ints_all _) rfl zn rfl rfl zz), rfl, zdf, (by exact below1 (lim := 0) rfl rfl 0 (N := []) (hoopsFit_all gs n T hz zo) (mix_all _ _) rfl zn rfl zz), rfl, zdf, rfl, rfl, rfl, rfl, trivial⟩) zk zt0
abbrev zq37 (nm : ByteArray) (w : Int) (g : Int) (y : Int) (n : Nat) (a : Int) (b : Int) (r : Int) (p : Int) (q : Int) (k : Nat) (gs : List Int) (T : Nat) (cs : List Int) (U : Nat) : Prop := Meets cfx 0 75 [lwA nm w g y n a b r p q k] [bkG gs T, bkI cs U, bkW nm w g y n a b r p q k] (V.raw (.bool (M.gridB cs k p q))) [bkG gs T, bkI cs U, bkW nm w g y n a b r p q k]
theorem check_grid (hz : n * 5 ≤ gs.length) (hzc : k * 3 ≤ cs.length) (hn : 1 ≤ n ∧ n ≤ 12) (hk : k ≤ 256) (hnm : nm.size ≤ 100) (h1 : M.nameB nm = true) (h2 : M.sidesB w g y = true) (h3 : M.hoopsB gs n = true) (h4 : M.gridB cs k p q = false)  : Meets cfx 0 37 [lwA nm w g y n a b r p q k] [bkG gs T, bkI cs U] (iV 2) [bkG gs T, bkI cs U] := by
  refine Meets.post (mev (ans := [Ans.go, zF, zF, zF, zF, zF, Ans.ret (V.raw (.bool (M.nameB nm))), zF, Ans.reth (V.raw (.bool (M.sidesB w g y))) [bkG gs T, bkI cs U, bkW nm w g y n a b r p q k], zF, zF, Ans.reth (V.raw (.bool (M.hoopsB gs n))) [bkG gs T, bkI cs U, bkW nm w g y n a b r p q k], zF, zF, Ans.reth (V.raw (.bool (M.gridB cs k p q))) [bkG gs T, bkI cs U, bkW nm w g y n a b r p q k], zF, zT, zT, zT]) (v := (iV 2)) (h' := [bkG gs T, bkI cs U, bkW nm w g y n a b r p q k]) (cons := [(decide ((n : Int) < 1) = false), zN, (decide (12 < (n : Int)) = false), zN, (decide (256 < (k : Int)) = false), (Ret cfx 72 [V.raw (Value.string nm)] (V.raw (.bool (M.nameB nm)))), ((!M.nameB nm) = false), ((zq39 nm w g y n a b r p q k gs T cs U)), zN, ((!M.sidesB w g y) = false), ((zq45 n gs T cs U nm w g y a b r p q k)), zN, ((!M.hoopsB gs n) = false), ((zq37 nm w g y n a b r p q k gs T cs U)), zN, ((!M.gridB cs k p q) = true), zY, zY]) zk
    ⟨zdo, rfl, zdo, rfl, zdo, (lnIsName _ hnm), zdf, (by exact below2 (lim := 0) rfl rfl 0 1 (N := []) (lnSides nm gs cs n k T U w g y a b r p q) (mix_all _ _) (ints_all _) rfl zn rfl rfl zz), rfl, zdf, (by exact below1 (lim := 0) rfl rfl 0 (N := []) (hoopsFit_all gs n T hz zo) (mix_all _ _) rfl zn rfl zz), rfl, zdf, (by exact below2 (lim := 0) rfl rfl 0 1 (N := []) (cellsFit_all nm gs cs n k T U w g y a b r p q hzc) (mix_all _ _) (ints_all _) rfl zn rfl rfl zz), rfl, zdf, rfl, rfl, trivial⟩) zk zt0
theorem check_post_false (hz : n * 5 ≤ gs.length) (hzc : k * 3 ≤ cs.length) (hn : 1 ≤ n ∧ n ≤ 12) (hk : k ≤ 256) (hnm : nm.size ≤ 100) (PB : Bool) (hpf : Meets cfx 0 76 [lwA nm w g y n a b r p q k] [bkG gs T, bkI cs U] (.raw (.bool PB)) [bkG gs T, bkI cs U]) (h1 : M.nameB nm = true) (h2 : M.sidesB w g y = true) (h3 : M.hoopsB gs n = true) (h4 : M.gridB cs k p q = true) (h5 : PB = false)  : Meets cfx 0 37 [lwA nm w g y n a b r p q k] [bkG gs T, bkI cs U] (iV 2) [bkG gs T, bkI cs U] := by
  refine Meets.post (mev (ans := [Ans.go, zF, zF, zF, zF, zF, Ans.ret (V.raw (.bool (M.nameB nm))), zF, Ans.reth (V.raw (.bool (M.sidesB w g y))) [bkG gs T, bkI cs U, bkW nm w g y n a b r p q k], zF, zF, Ans.reth (V.raw (.bool (M.hoopsB gs n))) [bkG gs T, bkI cs U, bkW nm w g y n a b r p q k], zF, zF, Ans.reth (V.raw (.bool (M.gridB cs k p q))) [bkG gs T, bkI cs U, bkW nm w g y n a b r p q k], zF, zF, Ans.reth (V.raw (.bool PB)) [bkG gs T, bkI cs U, bkW nm w g y n a b r p q k], zF, zT]) (v := (iV 2)) (h' := [bkG gs T, bkI cs U, bkW nm w g y n a b r p q k]) (cons := [(decide ((n : Int) < 1) = false), zN, (decide (12 < (n : Int)) = false), zN, (decide (256 < (k : Int)) = false), (Ret cfx 72 [V.raw (Value.string nm)] (V.raw (.bool (M.nameB nm)))), ((!M.nameB nm) = false), ((zq39 nm w g y n a b r p q k gs T cs U)), zN, ((!M.sidesB w g y) = false), ((zq45 n gs T cs U nm w g y a b r p q k)), zN, ((!M.hoopsB gs n) = false), ((zq37 nm w g y n a b r p q k gs T cs U)), zN, ((!M.gridB cs k p q) = false), (Meets cfx 0 76 [lwA nm w g y n a b r p q k] [bkG gs T, bkI cs U, bkW nm w g y n a b r p q k] (V.raw (.bool PB)) [bkG gs T, bkI cs U, bkW nm w g y n a b r p q k]), zN, ((!PB) = true)]) zk
    ⟨zdo, rfl, zdo, rfl, zdo, (lnIsName _ hnm), zdf, (by exact below2 (lim := 0) rfl rfl 0 1 (N := []) (lnSides nm gs cs n k T U w g y a b r p q) (mix_all _ _) (ints_all _) rfl zn rfl rfl zz), rfl, zdf, (by exact below1 (lim := 0) rfl rfl 0 (N := []) (hoopsFit_all gs n T hz zo) (mix_all _ _) rfl zn rfl zz), rfl, zdf, (by exact below2 (lim := 0) rfl rfl 0 1 (N := []) (cellsFit_all nm gs cs n k T U w g y a b r p q hzc) (mix_all _ _) (ints_all _) rfl zn rfl rfl zz), rfl, zdf, (by exact below2 (lim := 0) rfl rfl 0 1 (N := []) (hpf) (mix_all _ _) (ints_all _) rfl zn rfl rfl zz), rfl, zdf, trivial⟩) zk zt0
theorem check_post_true (hz : n * 5 ≤ gs.length) (hzc : k * 3 ≤ cs.length) (hn : 1 ≤ n ∧ n ≤ 12) (hk : k ≤ 256) (hnm : nm.size ≤ 100) (PB : Bool) (hpf : Meets cfx 0 76 [lwA nm w g y n a b r p q k] [bkG gs T, bkI cs U] (.raw (.bool PB)) [bkG gs T, bkI cs U]) (h1 : M.nameB nm = true) (h2 : M.sidesB w g y = true) (h3 : M.hoopsB gs n = true) (h4 : M.gridB cs k p q = true) (h5 : PB = true)  : Meets cfx 0 37 [lwA nm w g y n a b r p q k] [bkG gs T, bkI cs U] (iV 0) [bkG gs T, bkI cs U] := by
  refine Meets.post (mev (ans := [Ans.go, zF, zF, zF, zF, zF, Ans.ret (V.raw (.bool (M.nameB nm))), zF, Ans.reth (V.raw (.bool (M.sidesB w g y))) [bkG gs T, bkI cs U, bkW nm w g y n a b r p q k], zF, zF, Ans.reth (V.raw (.bool (M.hoopsB gs n))) [bkG gs T, bkI cs U, bkW nm w g y n a b r p q k], zF, zF, Ans.reth (V.raw (.bool (M.gridB cs k p q))) [bkG gs T, bkI cs U, bkW nm w g y n a b r p q k], zF, zF, Ans.reth (V.raw (.bool PB)) [bkG gs T, bkI cs U, bkW nm w g y n a b r p q k], zF, zF]) (v := (iV 0)) (h' := [bkG gs T, bkI cs U, bkW nm w g y n a b r p q k]) (cons := [(decide ((n : Int) < 1) = false), zN, (decide (12 < (n : Int)) = false), zN, (decide (256 < (k : Int)) = false), (Ret cfx 72 [V.raw (Value.string nm)] (V.raw (.bool (M.nameB nm)))), ((!M.nameB nm) = false), ((zq39 nm w g y n a b r p q k gs T cs U)), zN, ((!M.sidesB w g y) = false), ((zq45 n gs T cs U nm w g y a b r p q k)), zN, ((!M.hoopsB gs n) = false), ((zq37 nm w g y n a b r p q k gs T cs U)), zN, ((!M.gridB cs k p q) = false), (Meets cfx 0 76 [lwA nm w g y n a b r p q k] [bkG gs T, bkI cs U, bkW nm w g y n a b r p q k] (V.raw (.bool PB)) [bkG gs T, bkI cs U, bkW nm w g y n a b r p q k]), zN, ((!PB) = false)]) zk
    ⟨zdo, rfl, zdo, rfl, zdo, (lnIsName _ hnm), zdf, (by exact below2 (lim := 0) rfl rfl 0 1 (N := []) (lnSides nm gs cs n k T U w g y a b r p q) (mix_all _ _) (ints_all _) rfl zn rfl rfl zz), rfl, zdf, (by exact below1 (lim := 0) rfl rfl 0 (N := []) (hoopsFit_all gs n T hz zo) (mix_all _ _) rfl zn rfl zz), rfl, zdf, (by exact below2 (lim := 0) rfl rfl 0 1 (N := []) (cellsFit_all nm gs cs n k T U w g y a b r p q hzc) (mix_all _ _) (ints_all _) rfl zn rfl rfl zz), rfl, zdf, (by exact below2 (lim := 0) rfl rfl 0 1 (N := []) (hpf) (mix_all _ _) (ints_all _) rfl zn rfl rfl zz), rfl, zdf, trivial⟩) zk zt0
def M.rowP (gs : List Int) (n : Nat) (a b r : Int) : List Int := tab (n * 6) (M.postF gs) ++ [a, b, r]
def M.postsB (gs : List Int) (n : Nat) (w g a b r : Int) : Bool := M.btw r 1 8192 && (M.fitsB w g (M.rowP gs n a b r) (2 * n + 1) && M.apartB (M.rowP gs n a b r) (2 * n + 1))
theorem M.rowP_len (gs : List Int) (n : Nat) (a b r : Int) : (M.rowP gs n a b r).length = (2 * n + 1) * 3 := by
  simp [M.rowP, tab_len]; omega
theorem M.rowP_left {gs : List Int} {n : Nat} {a b r : Int} {j : Nat} (h : j < n * 6) : at' (M.rowP gs n a b r) j = M.postF gs j := by
  rw [← at_tab (f := M.postF gs) h]
  unfold M.rowP at'
  rw [List.getD_eq_getElem?_getD, List.getD_eq_getElem?_getD, List.getElem?_append_left (by rw [tab_len]; exact h)]
theorem M.rowP_right {gs : List Int} {n : Nat} {a b r : Int} (j : Nat) : at' (M.rowP gs n a b r) (n * 6 + j) = at' [a, b, r] j := by
  unfold M.rowP at'
  rw [List.getD_eq_getElem?_getD, List.getD_eq_getElem?_getD, List.getElem?_append_right (by rw [tab_len]; omega), tab_len, Nat.add_sub_cancel_left]
theorem M.rowP_rad {gs : List Int} {n : Nat} {a b r : Int} (hr : M.btw r 1 8192 = true) (hh : M.hoopsB gs n = true) : ∀ j : Nat, j < 2 * n + 1 → 1 ≤ at' (M.rowP gs n a b r) (j * 3 + 2) ∧ at' (M.rowP gs n a b r) (j * 3 + 2) ≤ 8192 := fun j hj => by
  by_cases h : j < 2 * n
  · rw [M.rowP_left (by omega)]
    have h6 := (M.hoop_facts (all_range hh ((j * 3 + 2) / 6) zo)).2.2.2.2
    unfold M.postF
    rw [if_neg (by omega), if_neg (by omega), if_neg (by omega), if_neg (by omega)]
    exact h6
  · rw [show j * 3 + 2 = n * 6 + 2 by omega, M.rowP_right]
    exact M.btw_iff.1 hr
theorem lnPosts (hz : n * 5 ≤ gs.length) (hn : n ≤ 20) (hg : M.hoopsB gs n = true) : Meets cfx 0 38 [lwA nm w g y n a b r p q k] [bkG gs T, bkI cs U] (.slo 2 (2 * n + 1)) ([bkG gs T, bkI cs U, some (.cells (ints (M.rowP gs n a b r)) 46 (.row 3))]) :=
  posts_ok nm gs cs n k T U w g y a b r p q hz hn (po_loop nm gs cs n k T U w g y a b r p q hz hn hg)
theorem lnPostsFit (hz : n * 5 ≤ gs.length) (hn : n ≤ 20) (hg : M.hoopsB gs n = true) (hs : M.sidesB w g y = true) : Meets cfx 0 76 [lwA nm w g y n a b r p q k] [bkG gs T, bkI cs U] (.raw (.bool (M.postsB gs n w g a b r))) [bkG gs T, bkI cs U] := by
  unfold M.postsB
  cases hr : M.btw r 1 8192 with
  | false => exact postsFit_peg nm gs cs n k T U w g y a b r p q hr
  | true =>
  rw [Bool.true_and]
  simp only [M.sidesB, Bool.and_eq_true, M.btw_iff] at hs
  have hl := M.rowP_len gs n a b r
  exact postsFit_all nm gs cs (M.rowP gs n a b r) n k (2 * n + 1) T U w g y a b r p q (lnPosts nm gs cs n k T U w g y a b r p q hz hn hg) hr hl zo zo zo (M.rowP_rad hr hg) zo zo
def M.lawnB (nm : ByteArray) (gs cs : List Int) (n k : Nat) (w g y a b r p q : Int) : Bool := M.nameB nm && (M.sidesB w g y && (M.hoopsB gs n && (M.gridB cs k p q && M.postsB gs n w g a b r)))
def M.lawnE (nm : ByteArray) (gs cs : List Int) (n k : Nat) (w g y a b r p q : Int) : Int := if n = 0 ∨ 12 < n ∨ 256 < k then 6 else if M.lawnB nm gs cs n k w g y a b r p q = true then 0 else 2
theorem lnCheck (hz : n * 5 ≤ gs.length) (hzc : k * 3 ≤ cs.length) (hn : n ≤ 20) (hk : k ≤ 300) (hnm : nm.size ≤ 100) : Meets cfx 0 37 [lwA nm w g y n a b r p q k] [bkG gs T, bkI cs U] (.raw (.int .i64 (M.lawnE nm gs cs n k w g y a b r p q))) [bkG gs T, bkI cs U] := by
  unfold M.lawnE
  by_cases h0 : n = 0
  · rw [if_pos (.inl h0)]; exact check_many0 nm gs cs n k T U w g y a b r p q h0
  by_cases h1 : 12 < n
  · rw [if_pos (.inr (.inl h1))]; exact check_many1 nm gs cs n k T U w g y a b r p q (by omega) h1 (by omega)
  by_cases h2 : 256 < k
  · rw [if_pos (.inr (.inr h2))]; exact check_many2 nm gs cs n k T U w g y a b r p q (by omega) (by omega) h2 (by omega)
  rw [if_neg (by omega)]
  unfold M.lawnB
  have hn' : 1 ≤ n ∧ n ≤ 12 := by omega
  have hk' : k ≤ 256 := by omega
  cases e1 : M.nameB nm with
  | false => exact check_name nm gs cs n k T U w g y a b r p q hz hzc hn' hk' hnm e1
  | true =>
  cases e2 : M.sidesB w g y with
  | false => exact check_side nm gs cs n k T U w g y a b r p q hz hzc hn' hk' hnm e1 e2
  | true =>
  cases e3 : M.hoopsB gs n with
  | false => exact check_hoop nm gs cs n k T U w g y a b r p q hz hzc hn' hk' hnm e1 e2 e3
  | true =>
  cases e4 : M.gridB cs k p q with
  | false => exact check_grid nm gs cs n k T U w g y a b r p q hz hzc hn' hk' hnm e1 e2 e3 e4
  | true =>
  have hp := lnPostsFit nm gs cs n k T U w g y a b r p q hz hn e3 e2
  cases e5 : M.postsB gs n w g a b r with
  | false => exact check_post_false nm gs cs n k T U w g y a b r p q hz hzc hn' hk' hnm _ hp e1 e2 e3 e4 e5
  | true => exact check_post_true nm gs cs n k T U w g y a b r p q hz hzc hn' hk' hnm _ hp e1 e2 e3 e4 e5
def ixf_T (os : List Int) (m : Nat) (W : Nat) (u v s : Int) (i : Int) : List V := (catV [.slo 0 m, V.fn (Fn.func 100) [] [.ptr 1 0], uV, .any 3, iV 0, .any 5, .slo 0 m, iV (m : Int), iV i] (anyR 9 10 []))
def ixf_H (os : List Int) (m : Nat) (W : Nat) (u v s : Int) (i : Int) : Heap := [bkI os W, some (.cells [iV u, iV v, iV s] 46 .ro)]
def ixf_T1 (os : List Int) (m : Nat) (W : Nat) (u v s : Int) (i : Int) : List V := (catV [.slo 0 m, V.fn (Fn.func 100) [] [.ptr 1 0], uV, .any 3, iV i, .any 5, .slo 0 m, iV (m : Int), iV i] (anyR 9 10 []))
def ixf_H1 (os : List Int) (m : Nat) (W : Nat) (u v s : Int) (i : Int) : Heap := [bkI os W, some (.cells [iV u, iV v, iV s] 46 .ro)]
abbrev zq26 (os : List Int) (i : Int) (W : Nat) (u : Int) (v : Int) (s : Int) : Prop := Meets cfx 0 100 [V.raw (.agg { toList := [.int .i64 (at' os (i.toNat * 3)), .int .i64 (at' os (i.toNat * 3 + 1)), .int .i64 (at' os (i.toNat * 3 + 2))] }), .ptr 1 0] [bkI os W, some (.cells [iV u, iV v, iV s] 46 .ro)] (V.raw (.bool (M.overB u v s (at' os (i.toNat * 3)) (at' os (i.toNat * 3 + 1)) (at' os (i.toNat * 3 + 2))))) [bkI os W, some (.cells [iV u, iV v, iV s] 46 .ro)]
theorem ixf_1 (os : List Int) (m : Nat) (W : Nat) (u v s : Int) (hz : m * 3 ≤ os.length) (hm : m ≤ 1000) (hd : chkDisc u v s = 0) (i : Int) (hi1 : 0 ≤ i) (hq : i < ↑m → chkDisc (at' os (i.toNat * 3)) (at' os (i.toNat * 3 + 1)) (at' os (i.toNat * 3 + 2)) = 0) (f0 : i < (m : Int)) (f1 : M.overB u v s (at' os (i.toNat * 3)) (at' os (i.toNat * 3 + 1)) (at' os (i.toNat * 3 + 2)) = true) : Runs cfx 0 2 none (loopOf cfx.P 101 0) (ixf_T os m W u v s i) (ixf_H os m W u v s i) (Ex.ret) (ixf_T1 os m W u v s i) (ixf_H1 os m W u v s i) := by
  refine Runs.post (t1 := [.slo 0 m, V.fn (Fn.func 100) [] [.ptr 1 0], uV, .any 3, iV i, iV i, .slo 0 m, iV (m : Int), iV i, V.raw (.bool (decide (i < (m : Int)))), iV i, V.fn (Fn.func 100) [] [.ptr 1 0], .slo 0 m, iV i, V.ptr 0 (i.toNat * 3), (rowV os (i.toNat * 3) 3), V.raw (.bool (M.overB u v s (at' os (i.toNat * 3)) (at' os (i.toNat * 3 + 1)) (at' os (i.toNat * 3 + 2)))), iV i, .any 18]) (h1 := [bkI os W, some (.cells [iV u, iV v, iV s] 46 .ro)]) (body_of cfx_mixed cfx_call zz (rnd := none) (fi := 0) (k := 0) (n := 40) (n0 := 2) (ans := [zT, Ans.val 0 ((rowV os (i.toNat * 3) 3)), Ans.reth (V.raw (.bool (M.overB u v s (at' os (i.toNat * 3)) (at' os (i.toNat * 3 + 1)) (at' os (i.toNat * 3 + 2))))) [bkI os W, some (.cells [iV u, iV v, iV s] 46 .ro)], zT]) (cons := [(decide (i < (m : Int)) = true), (0 ≤ i ∧ i < (m : Int)), (loadRow cfx 46 (ints os) (i.toNat * 3) = some ((rowV os (i.toNat * 3) 3))), ((zq26 os i W u v s)), (M.overB u v s (at' os (i.toNat * 3)) (at' os (i.toNat * 3 + 1)) (at' os (i.toNat * 3 + 2)) = true)]) zk
    ⟨zdo, zo, (load_agg 3 zk zk zb zo), (by exact below_ro (lim := 0) (N := []) rfl rfl (fun k => 1) (fun _ => false) (lnTouches _ _ _ _ _ _ hd (hq zo)) ⟨⟨_, _, rfl, rfl, .inl ⟨rfl, _, rfl⟩⟩, trivial⟩ (fun _ _ => rfl) rfl rfl rfl zn zz), zdf, trivial⟩ zb zb noRnd (noRanges zk)) zt5
theorem ixf_2 (os : List Int) (m : Nat) (W : Nat) (u v s : Int) (hz : m * 3 ≤ os.length) (hm : m ≤ 1000) (hd : chkDisc u v s = 0) (i : Int) (hi1 : 0 ≤ i) (hq : i < ↑m → chkDisc (at' os (i.toNat * 3)) (at' os (i.toNat * 3 + 1)) (at' os (i.toNat * 3 + 2)) = 0) (f0 : i < (m : Int)) (f1 : M.overB u v s (at' os (i.toNat * 3)) (at' os (i.toNat * 3 + 1)) (at' os (i.toNat * 3 + 2)) = false) : Runs cfx 0 2 none (loopOf cfx.P 101 0) (ixf_T os m W u v s i) (ixf_H os m W u v s i) (Ex.normal) (ixf_T os m W u v s (i + 1)) (ixf_H os m W u v s (i + 1)) := by
  refine Runs.post (t1 := [.slo 0 m, V.fn (Fn.func 100) [] [.ptr 1 0], uV, .any 3, iV 0, iV i, .slo 0 m, iV (m : Int), iV (i + 1), V.raw (.bool (decide (i < (m : Int)))), iV i, V.fn (Fn.func 100) [] [.ptr 1 0], .slo 0 m, iV i, V.ptr 0 (i.toNat * 3), (rowV os (i.toNat * 3) 3), V.raw (.bool (M.overB u v s (at' os (i.toNat * 3)) (at' os (i.toNat * 3 + 1)) (at' os (i.toNat * 3 + 2)))), .any 17, iV (i + 1)]) (h1 := [bkI os W, some (.cells [iV u, iV v, iV s] 46 .ro)]) (body_of cfx_mixed cfx_call zz (rnd := none) (fi := 0) (k := 0) (n := 40) (n0 := 2) (ans := [zT, Ans.val 0 ((rowV os (i.toNat * 3) 3)), Ans.reth (V.raw (.bool (M.overB u v s (at' os (i.toNat * 3)) (at' os (i.toNat * 3 + 1)) (at' os (i.toNat * 3 + 2))))) [bkI os W, some (.cells [iV u, iV v, iV s] 46 .ro)], zF]) (cons := [(decide (i < (m : Int)) = true), (0 ≤ i ∧ i < (m : Int)), (loadRow cfx 46 (ints os) (i.toNat * 3) = some ((rowV os (i.toNat * 3) 3))), ((zq26 os i W u v s)), (M.overB u v s (at' os (i.toNat * 3)) (at' os (i.toNat * 3 + 1)) (at' os (i.toNat * 3 + 2)) = false), (inR IntKind.i64 (i + 1))]) zk
    ⟨zdo, zo, (load_agg 3 zk zk zb zo), (by exact below_ro (lim := 0) (N := []) rfl rfl (fun k => 1) (fun _ => false) (lnTouches _ _ _ _ _ _ hd (hq zo)) ⟨⟨_, _, rfl, rfl, .inl ⟨rfl, _, rfl⟩⟩, trivial⟩ (fun _ _ => rfl) rfl rfl rfl zn zz), zdf, inR_i64 zo zo, trivial⟩ zb zb noRnd (noRanges zk)) zt5
def ixf_T3 (os : List Int) (m : Nat) (W : Nat) (u v s : Int) (i : Int) : List V := (catV [.slo 0 m, V.fn (Fn.func 100) [] [.ptr 1 0], uV, .any 3, iV 0, .any 5, .slo 0 m, iV (m : Int), iV i] (anyR 9 10 []))
def ixf_H3 (os : List Int) (m : Nat) (W : Nat) (u v s : Int) (i : Int) : Heap := [bkI os W, some (.cells [iV u, iV v, iV s] 46 .ro)]
theorem ixf_3 (os : List Int) (m : Nat) (W : Nat) (u v s : Int) (hz : m * 3 ≤ os.length) (hm : m ≤ 1000) (hd : chkDisc u v s = 0) (i : Int) (hi1 : 0 ≤ i) (hq : i < ↑m → chkDisc (at' os (i.toNat * 3)) (at' os (i.toNat * 3 + 1)) (at' os (i.toNat * 3 + 2)) = 0) (f0 : ¬i < (m : Int)) : Runs cfx 0 2 none (loopOf cfx.P 101 0) (ixf_T os m W u v s i) (ixf_H os m W u v s i) (Ex.exit 0) (ixf_T3 os m W u v s i) (ixf_H3 os m W u v s i) := by
  refine Runs.post (t1 := (catV [.slo 0 m, V.fn (Fn.func 100) [] [.ptr 1 0], uV, .any 3, iV 0, .any 5, .slo 0 m, iV (m : Int), iV i, V.raw (.bool (decide (i < (m : Int))))] (anyR 10 9 []))) (h1 := [bkI os W, some (.cells [iV u, iV v, iV s] 46 .ro)]) (body_of cfx_mixed cfx_call zz (rnd := none) (fi := 0) (k := 0) (n := 40) (n0 := 2) (ans := [zF]) (cons := [(decide (i < (m : Int)) = false)]) zk
    ⟨zdo, trivial⟩ zb zb noRnd (noRanges zk)) zt5
def M.tchA (os : List Int) (m : Nat) (u v s : Int) : Bool := !(List.range m).all fun i => !M.tchZ os u v s i
theorem ixf_loop (os : List Int) (m : Nat) (W : Nat) (u v s : Int) (hz : m * 3 ≤ os.length) (hm : m ≤ 1000) (hd : chkDisc u v s = 0) (hq : ∀ i : Nat, i < m → chkDisc (at' os (i * 3)) (at' os (i * 3 + 1)) (at' os (i * 3 + 2)) = 0) : (M.tchA os m u v s = false ∧ Runs cfx 0 2 none (.loop (loopOf cfx.P 101 0)) (ixf_T os m W u v s 0) (ixf_H os m W u v s 0) (.exit 0) (ixf_T3 os m W u v s m) (ixf_H3 os m W u v s m)) ∨ (M.tchA os m u v s = true ∧ ∃ i : Nat, Runs cfx 0 2 none (.loop (loopOf cfx.P 101 0)) (ixf_T os m W u v s 0) (ixf_H os m W u v s 0) (.ret) (ixf_T1 os m W u v s i) (ixf_H1 os m W u v s i)) := by
  unfold M.tchA
  rcases upto_find (c := cfx) (lim := 0) (n0 := 2) (x := loopOf cfx.P 101 0) noRnd (fun i => !M.tchZ os u v s i) (fun i : Nat => ixf_T os m W u v s i) (fun i : Nat => ixf_H os m W u v s i) m (fun i : Nat => ixf_T1 os m W u v s i) (fun i : Nat => ixf_H1 os m W u v s i) (e := .exit 0) (e1 := .ret) (by simp) (by simp)
    (fun i hi hg => ixf_2 os m W u v s hz hm hd i (by omega) (fun _ => by simp only [Int.toNat_natCast]; exact hq i hi) (by omega) (show M.tchZ os u v s i = false by simpa using hg))
    (fun i hi hg => ixf_1 os m W u v s hz hm hd i (by omega) (fun _ => by simp only [Int.toNat_natCast]; exact hq i hi) (by omega) (show M.tchZ os u v s i = true by simpa using hg))
    (ixf_3 os m W u v s hz hm hd m zo (fun h => by omega) zo) with ⟨h1, h2⟩ | ⟨h1, i, hi, h2, h3, h4⟩
  · exact .inl ⟨by rw [h1]; rfl, h2⟩
  · exact .inr ⟨by rw [h1]; rfl, i, h4⟩
abbrev zq46 (m : Nat) : List V := (catV [.slo 0 m, V.fn (Fn.func 100) [] [.ptr 1 0], uV, .any 3, iV 0, .any 5, .slo 0 m, iV (m : Int), iV (m : Int)] (anyR 9 10 []))
abbrev zq52 (m : Nat) : List V := (catV [.slo 0 m, V.fn (Fn.func 100) [] [.ptr 1 0], uV, uV, iV 0, uV, .slo 0 m, iV (m : Int), iV 0] (repU 10 []))
abbrev zq61 (os : List Int) (W : Nat) (u : Int) (v : Int) (s : Int) : Heap := [bkI os W, some (.cells [.raw (.int .i64 u), .raw (.int .i64 v), .raw (.int .i64 s)] 46 .ro)]
theorem cfn_no (os : List Int) (m : Nat) (W : Nat) (u v s : Int) (hz : m * 3 ≤ os.length) (hm : m ≤ 1000) (hd : chkDisc u v s = 0) (hR : Runs cfx 0 2 none (.loop (loopOf cfx.P 101 0)) (ixf_T os m W u v s 0) (ixf_H os m W u v s 0) (.exit 0) (ixf_T3 os m W u v s m) (ixf_H3 os m W u v s m))  : Meets cfx 0 85 [.slo 0 m, V.fn (Fn.func 100) [] [.ptr 1 0]] (zq61 os W u v s) (V.raw (.bool false)) [bkI os W, some (.cells [iV u, iV v, iV s] 46 .ro)] := by
  refine Meets.post (mev (ans := [Ans.go, Ans.go, Ans.loop (Ex.exit 0) (zq46 m) [bkI os W, some (.cells [iV u, iV v, iV s] 46 .ro)]]) (v := V.raw (.bool false)) (h' := [bkI os W, some (.cells [iV u, iV v, iV s] 46 .ro)]) (cons := [(Runs cfx 0 2 none (.loop (loopOf cfx.P 101 0)) (zq52 m) [bkI os W, some (.cells [iV u, iV v, iV s] 46 .ro)] (Ex.exit 0) (zq46 m) [bkI os W, some (.cells [iV u, iV v, iV s] 46 .ro)])]) zk
    ⟨(by
      refine Runs.pre (fun b e => by cases e) (fun RT RH => ?_) (hR)
      exact reshape2 (lim := 0) 2 (t := (zq52 m)) (h := [bkI os W, some (.cells [iV u, iV v, iV s] 46 .ro)]) cfx_G rfl [] zk zk zdr RT RH), trivial⟩) zk zt5
abbrev zq42 (m : Nat) (i : Nat) : List V := (catV [.slo 0 m, V.fn (Fn.func 100) [] [.ptr 1 0], uV, .any 3, iV (i : Int), .any 5, .slo 0 m, iV (m : Int), iV (i : Int)] (anyR 9 10 []))
theorem cfn_yes (os : List Int) (m : Nat) (W : Nat) (u v s : Int) (hz : m * 3 ≤ os.length) (hm : m ≤ 1000) (hd : chkDisc u v s = 0) (i : Nat) (hR : Runs cfx 0 2 none (.loop (loopOf cfx.P 101 0)) (ixf_T os m W u v s 0) (ixf_H os m W u v s 0) (.ret) (ixf_T1 os m W u v s i) (ixf_H1 os m W u v s i))  : Meets cfx 0 85 [.slo 0 m, V.fn (Fn.func 100) [] [.ptr 1 0]] (zq61 os W u v s) (V.raw (.bool true)) [bkI os W, some (.cells [iV u, iV v, iV s] 46 .ro)] := by
  refine Meets.post (mev (ans := [Ans.go, Ans.go, Ans.loop Ex.ret (zq42 m i) [bkI os W, some (.cells [iV u, iV v, iV s] 46 .ro)]]) (v := V.raw (.bool true)) (h' := [bkI os W, some (.cells [iV u, iV v, iV s] 46 .ro)]) (cons := [(Runs cfx 0 2 none (.loop (loopOf cfx.P 101 0)) (zq52 m) [bkI os W, some (.cells [iV u, iV v, iV s] 46 .ro)] (Ex.ret) (zq42 m i) [bkI os W, some (.cells [iV u, iV v, iV s] 46 .ro)])]) zk
    ⟨(by
      refine Runs.pre (fun b e => by cases e) (fun RT RH => ?_) (hR)
      exact reshape2 (lim := 0) 2 (t := (zq52 m)) (h := [bkI os W, some (.cells [iV u, iV v, iV s] 46 .ro)]) cfx_G rfl [] zk zk zdr RT RH), trivial⟩) zk zt5
theorem lnContains (os : List Int) (m : Nat) (W : Nat) (u v s : Int) (hz : m * 3 ≤ os.length) (hm : m ≤ 1000) (hd : chkDisc u v s = 0) (hq : ∀ i : Nat, i < m → chkDisc (at' os (i * 3)) (at' os (i * 3 + 1)) (at' os (i * 3 + 2)) = 0) : Meets cfx 0 85 [.slo 0 m, V.fn (Fn.func 100) [] [.ptr 1 0]] (zq61 os W u v s) (.raw (.bool (M.tchA os m u v s))) (zq61 os W u v s) := by
  rcases ixf_loop os m W u v s hz hm hd hq with ⟨e, R⟩ | ⟨e, i, R⟩ <;> rw [e]
  · exact cfn_no os m W u v s hz hm hd R
  · exact cfn_yes os m W u v s hz hm hd i R
abbrev zq64 (gs : List Int) (T : Nat) (cs : List Int) (U : Nat) (os : List Int) (W : Nat) (nm : ByteArray) (w : Int) (g : Int) (y : Int) (n : Nat) (a : Int) (b : Int) (r : Int) (p : Int) (q : Int) (k : Nat) (u : Int) (v : Int) (s : Int) (m : Nat) (ps : List Int) : Heap := [bkG gs T, bkI cs U, bkI os W, bkW nm w g y n a b r p q k, bkP u v, some (.cells [iV u, iV v] 29 (.row 2)), bkW nm w g y n a b r p q k, bkP u v, some (.cells [iV (M.radE s), iV (M.othE os m)] 34 (.row 1)), bkP u v, some (.cells [iV u, iV v, iV s] 46 .rw), bkW nm w g y n a b r p q k, bkP u v, some (.cells (ints ps) 46 (.row 3))]
abbrev zq2 (c : Nat) (gs : List Int) (T : Nat) (cs : List Int) (U : Nat) (os : List Int) (W : Nat) (nm : ByteArray) (w : Int) (g : Int) (y : Int) (n : Nat) (a : Int) (b : Int) (r : Int) (p : Int) (q : Int) (k : Nat) (u : Int) (v : Int) (s : Int) (m : Nat) (ps : List Int) : Prop := Meets cfx 0 85 [.slo 13 c, V.fn (Fn.func 100) [] [.ptr 10 0]] (zq64 gs T cs U os W nm w g y n a b r p q k u v s m ps) (V.raw (.bool (M.tchA ps c u v s))) (zq64 gs T cs U os W nm w g y n a b r p q k u v s m ps)
abbrev zq3 (nm : ByteArray) (w : Int) (g : Int) (y : Int) (n : Nat) (a : Int) (b : Int) (r : Int) (p : Int) (q : Int) (k : Nat) (gs : List Int) (T : Nat) (cs : List Int) (U : Nat) (os : List Int) (W : Nat) (u : Int) (v : Int) (s : Int) (m : Nat) (c : Nat) (ps : List Int) : Prop := Meets cfx 0 38 [lwA nm w g y n a b r p q k] [bkG gs T, bkI cs U, bkI os W, bkW nm w g y n a b r p q k, bkP u v, some (.cells [iV u, iV v] 29 (.row 2)), bkW nm w g y n a b r p q k, bkP u v, some (.cells [iV (M.radE s), iV (M.othE os m)] 34 (.row 1)), bkP u v, some (.cells [iV u, iV v, iV s] 46 .rw), bkW nm w g y n a b r p q k, bkP u v] (.slo 13 c) (zq64 gs T cs U os W nm w g y n a b r p q k u v s m ps)
abbrev zq20 (m : Nat) (gs : List Int) (T : Nat) (cs : List Int) (U : Nat) (os : List Int) (W : Nat) (nm : ByteArray) (w : Int) (g : Int) (y : Int) (n : Nat) (a : Int) (b : Int) (r : Int) (p : Int) (q : Int) (k : Nat) (u : Int) (v : Int) : Prop := Meets cfx 0 79 [.slo 2 m] [bkG gs T, bkI cs U, bkI os W, bkW nm w g y n a b r p q k, bkP u v, some (.cells [iV u, iV v] 29 (.row 2)), bkW nm w g y n a b r p q k, bkP u v] (iV (M.othE os m)) [bkG gs T, bkI cs U, bkI os W, bkW nm w g y n a b r p q k, bkP u v, some (.cells [iV u, iV v] 29 (.row 2)), bkW nm w g y n a b r p q k, bkP u v]
abbrev zq22 (gs : List Int) (T : Nat) (cs : List Int) (U : Nat) (os : List Int) (W : Nat) (nm : ByteArray) (w : Int) (g : Int) (y : Int) (n : Nat) (a : Int) (b : Int) (r : Int) (p : Int) (q : Int) (k : Nat) (u : Int) (v : Int) (s : Int) (m : Nat) (ps : List Int) : Heap := (zq64 gs T cs U os W nm w g y n a b r p q k u v s m ps)
abbrev zq23 (nm : ByteArray) (w : Int) (g : Int) (y : Int) (n : Nat) (a : Int) (b : Int) (r : Int) (p : Int) (q : Int) (k : Nat) (gs : List Int) (T : Nat) (cs : List Int) (U : Nat) (os : List Int) (W : Nat) (u : Int) (v : Int) (E : Int) : Prop := Meets cfx 0 37 [lwA nm w g y n a b r p q k] [bkG gs T, bkI cs U, bkI os W, bkW nm w g y n a b r p q k, bkP u v, some (.cells [iV u, iV v] 29 (.row 2)), bkW nm w g y n a b r p q k] (iV E) [bkG gs T, bkI cs U, bkI os W, bkW nm w g y n a b r p q k, bkP u v, some (.cells [iV u, iV v] 29 (.row 2)), bkW nm w g y n a b r p q k]
abbrev zq35 (gs : List Int) (T : Nat) (cs : List Int) (U : Nat) (os : List Int) (W : Nat) (nm : ByteArray) (w : Int) (g : Int) (y : Int) (n : Nat) (a : Int) (b : Int) (r : Int) (p : Int) (q : Int) (k : Nat) (u : Int) (v : Int) : Heap := [bkG gs T, bkI cs U, bkI os W, bkW nm w g y n a b r p q k, bkP u v, some (.cells [iV u, iV v] 29 (.row 2)), bkW nm w g y n a b r p q k, bkP u v]
abbrev zq43 (gs : List Int) (T : Nat) (cs : List Int) (U : Nat) (os : List Int) (W : Nat) (nm : ByteArray) (w : Int) (g : Int) (y : Int) (n : Nat) (a : Int) (b : Int) (r : Int) (p : Int) (q : Int) (k : Nat) (u : Int) (v : Int) : Heap := [bkG gs T, bkI cs U, bkI os W, bkW nm w g y n a b r p q k, bkP u v, some (.cells [iV u, iV v] 29 (.row 2)), bkW nm w g y n a b r p q k]
abbrev zq60 (nm : ByteArray) (w : Int) (g : Int) (y : Int) (n : Nat) (a : Int) (b : Int) (r : Int) (p : Int) (q : Int) (k : Nat) (gs : List Int) (T : Nat) (cs : List Int) (U : Nat) (E : Int) : Prop := Meets cfx 0 37 [lwA nm w g y n a b r p q k] [bkG gs T, bkI cs U] (.raw (.int .i64 E)) [bkG gs T, bkI cs U]
theorem lnMay_ok_1 (E : Int) (hC : (zq60 nm w g y n a b r p q k gs T cs U E)) (os : List Int) (m : Nat) (W : Nat) (u v s : Int) (hz : m * 3 ≤ os.length) (hmb : m ≤ 1000000) (hE : E = 0) (hP : M.ptE u v = 0) (hS : M.radE s = 0) (hO : M.othE os m = 0) (ps : List Int) (c : Nat) (hpo : Meets cfx 0 38 [lwA nm w g y n a b r p q k] [bkG gs T, bkI cs U] (.slo 2 c) ([bkG gs T, bkI cs U, some (.cells (ints ps) 46 (.row 3))])) (hzl : ps.length = c * 3) (hc : c ≤ 100) (hm1 : m ≤ 1000) (hd : chkDisc u v s = 0) (hq1 : ∀ i : Nat, i < m → chkDisc (at' os (i * 3)) (at' os (i * 3 + 1)) (at' os (i * 3 + 2)) = 0) (hq2 : ∀ i : Nat, i < c → chkDisc (at' ps (i * 3)) (at' ps (i * 3 + 1)) (at' ps (i * 3 + 2)) = 0) (f0 : M.btw u 0 w = true) (f1 : M.btw v 0 g = true) (f2 : M.tchA ps c u v s = false) : Meets cfx 0 55 [lwA nm w g y n a b r p q k, .raw (.agg #[.int .i64 u, .int .i64 v]), .raw (.int .i64 s), .slo 2 m] [bkG gs T, bkI cs U, bkI os W] (V.raw (.tuple { toList := [.bool !M.tchA os m u v s, .int .i64 0] })) [bkG gs T, bkI cs U, bkI os W] := by
  refine Meets.post (mev (ans := [Ans.go, Ans.go, Ans.reth (iV E) (zq43 gs T cs U os W nm w g y n a b r p q k u v), zF, zT, Ans.ret (iV (M.ptE u v)), zF, zF, Ans.ret (iV (M.radE s)), Ans.reth (iV (M.othE os m)) (zq35 gs T cs U os W nm w g y n a b r p q k u v), Ans.go, zT, zF, zT, zF, zF, zF, Ans.go, Ans.go, Ans.ret (V.raw (.bool (M.btw u 0 w))), zT, Ans.ret (V.raw (.bool (M.btw v 0 g))), zT, zT, Ans.reth (.slo 13 c) (zq22 gs T cs U os W nm w g y n a b r p q k u v s m ps), Ans.reth (V.raw (.bool (M.tchA ps c u v s))) (zq22 gs T cs U os W nm w g y n a b r p q k u v s m ps), zT, zT, Ans.reth (V.raw (.bool (M.tchA os m u v s))) (zq22 gs T cs U os W nm w g y n a b r p q k u v s m ps), zT]) (v := V.raw (.tuple { toList := [.bool !M.tchA os m u v s, .int .i64 0] })) (h' := (zq22 gs T cs U os W nm w g y n a b r p q k u v s m ps)) (cons := [(1 ≤ 9223372036854775807), ((zq23 nm w g y n a b r p q k gs T cs U os W u v E)), ((!decide (E = 0)) = false), zY, ((0 : Int) ≤ (0 : Int) ∧ (0 : Int) < (1 : Int)), (Ret cfx 53 [pV u v] (iV (M.ptE u v))), ((!decide (M.ptE u v = 0)) = false), (inR IntKind.i64 1), zN, (Ret cfx 78 [iV s] (iV (M.radE s))), ((zq20 m gs T cs U os W nm w g y n a b r p q k u v)), (2 ≤ 9223372036854775807), zY, ((0 : Int) ≤ (0 : Int) ∧ (0 : Int) < (2 : Int)), ((!decide (M.radE s = 0)) = false), (inR IntKind.i64 1), zY, ((0 : Int) ≤ (1 : Int) ∧ (1 : Int) < (2 : Int)), ((!decide (M.othE os m = 0)) = false), (inR IntKind.i64 2), zN, zN, (Ret cfx 83 [iV u, iV 0, iV w] (V.raw (.bool (M.btw u 0 w)))), (M.btw u 0 w = true), (Ret cfx 83 [iV v, iV 0, iV g] (V.raw (.bool (M.btw v 0 g)))), zY, (M.btw v 0 g = true), ((zq3 nm w g y n a b r p q k gs T cs U os W u v s m c ps)), ((zq2 c gs T cs U os W nm w g y n a b r p q k u v s m ps)), zY, ((!M.tchA ps c u v s) = true), (Meets cfx 0 85 [.slo 2 m, V.fn (Fn.func 100) [] [.ptr 10 0]] (zq22 gs T cs U os W nm w g y n a b r p q k u v s m ps) (V.raw (.bool (M.tchA os m u v s))) (zq22 gs T cs U os W nm w g y n a b r p q k u v s m ps)), zY]) zk
    ⟨zds, (by exact below2 (lim := 0) rfl rfl 0 1 (N := []) hC (mix_all _ _) (ints_all _) rfl zn rfl rfl zz), zdf, rfl, zo, (lnPoint _ _), zdf, inR_i64 zo zo, rfl, (lnRadius _), (by exact below_ro (lim := 0) (N := []) rfl rfl (fun k => 2) (fun _ => false) (lnOthers os m W hz hmb) ⟨⟨_, _, rfl, ints_all _, .inl ⟨rfl, _, rfl⟩⟩, trivial⟩ (fun _ _ => rfl) rfl rfl rfl zn zz), zds, rfl, zo, zdf, inR_i64 zo zo, rfl, zo, zdf, inR_i64 zo zo, rfl, rfl, (lnBetween _ _ _), zdf, (lnBetween _ _ _), rfl, zdf, (by exact below_ro (lim := 0) (N := [some (.cells (ints ps) 46 (.row 3))]) rfl rfl (fun k => if k = 0 then 0 else 1) (fun _ => false) hpo ⟨⟨_, _, rfl, mix_all _ _, .inl ⟨rfl, _, rfl⟩⟩, ⟨_, _, rfl, ints_all _, .inl ⟨rfl, _, rfl⟩⟩, trivial⟩ (fun _ _ => rfl) rfl rfl rfl (new_row _ _ _) zz), (by exact below_ro (lim := 0) (N := []) rfl rfl (fun k => if k = 0 then 13 else 10) (fun _ => false) (lnContains ps c _ u v s zo zo hd hq2) ⟨⟨_, _, rfl, ints_all _, .inl ⟨rfl, _, rfl⟩⟩, ⟨_, _, rfl, rfl, .inl ⟨rfl, _, rfl⟩⟩, trivial⟩ (fun _ _ => rfl) rfl rfl rfl zn zz), rfl, zdf, (by exact below_ro (lim := 0) (N := []) rfl rfl (fun k => if k = 0 then 2 else 10) (fun _ => false) (lnContains os m W u v s hz hm1 hd hq1) ⟨⟨_, _, rfl, ints_all _, .inl ⟨rfl, _, rfl⟩⟩, ⟨_, _, rfl, rfl, .inl ⟨rfl, _, rfl⟩⟩, trivial⟩ (fun _ _ => rfl) rfl rfl rfl zn zz), rfl, trivial⟩) zk zt6
theorem lnMay_ok_2 (E : Int) (hC : (zq60 nm w g y n a b r p q k gs T cs U E)) (os : List Int) (m : Nat) (W : Nat) (u v s : Int) (hz : m * 3 ≤ os.length) (hmb : m ≤ 1000000) (hE : E = 0) (hP : M.ptE u v = 0) (hS : M.radE s = 0) (hO : M.othE os m = 0) (ps : List Int) (c : Nat) (hpo : Meets cfx 0 38 [lwA nm w g y n a b r p q k] [bkG gs T, bkI cs U] (.slo 2 c) ([bkG gs T, bkI cs U, some (.cells (ints ps) 46 (.row 3))])) (hzl : ps.length = c * 3) (hc : c ≤ 100) (hm1 : m ≤ 1000) (hd : chkDisc u v s = 0) (hq1 : ∀ i : Nat, i < m → chkDisc (at' os (i * 3)) (at' os (i * 3 + 1)) (at' os (i * 3 + 2)) = 0) (hq2 : ∀ i : Nat, i < c → chkDisc (at' ps (i * 3)) (at' ps (i * 3 + 1)) (at' ps (i * 3 + 2)) = 0) (f0 : M.btw u 0 w = true) (f1 : M.btw v 0 g = true) (f2 : M.tchA ps c u v s = true) : Meets cfx 0 55 [lwA nm w g y n a b r p q k, .raw (.agg #[.int .i64 u, .int .i64 v]), .raw (.int .i64 s), .slo 2 m] [bkG gs T, bkI cs U, bkI os W] (V.raw (.tuple { toList := [.bool false, .int .i64 0] })) [bkG gs T, bkI cs U, bkI os W] := by
  refine Meets.post (mev (ans := [Ans.go, Ans.go, Ans.reth (iV E) (zq43 gs T cs U os W nm w g y n a b r p q k u v), zF, zT, Ans.ret (iV (M.ptE u v)), zF, zF, Ans.ret (iV (M.radE s)), Ans.reth (iV (M.othE os m)) (zq35 gs T cs U os W nm w g y n a b r p q k u v), Ans.go, zT, zF, zT, zF, zF, zF, Ans.go, Ans.go, Ans.ret (V.raw (.bool (M.btw u 0 w))), zT, Ans.ret (V.raw (.bool (M.btw v 0 g))), zT, zT, Ans.reth (.slo 13 c) (zq22 gs T cs U os W nm w g y n a b r p q k u v s m ps), Ans.reth (V.raw (.bool (M.tchA ps c u v s))) (zq22 gs T cs U os W nm w g y n a b r p q k u v s m ps), zT, zF, zF]) (v := V.raw (.tuple { toList := [.bool false, .int .i64 0] })) (h' := (zq22 gs T cs U os W nm w g y n a b r p q k u v s m ps)) (cons := [(1 ≤ 9223372036854775807), ((zq23 nm w g y n a b r p q k gs T cs U os W u v E)), ((!decide (E = 0)) = false), zY, ((0 : Int) ≤ (0 : Int) ∧ (0 : Int) < (1 : Int)), (Ret cfx 53 [pV u v] (iV (M.ptE u v))), ((!decide (M.ptE u v = 0)) = false), (inR IntKind.i64 1), zN, (Ret cfx 78 [iV s] (iV (M.radE s))), ((zq20 m gs T cs U os W nm w g y n a b r p q k u v)), (2 ≤ 9223372036854775807), zY, ((0 : Int) ≤ (0 : Int) ∧ (0 : Int) < (2 : Int)), ((!decide (M.radE s = 0)) = false), (inR IntKind.i64 1), zY, ((0 : Int) ≤ (1 : Int) ∧ (1 : Int) < (2 : Int)), ((!decide (M.othE os m = 0)) = false), (inR IntKind.i64 2), zN, zN, (Ret cfx 83 [iV u, iV 0, iV w] (V.raw (.bool (M.btw u 0 w)))), (M.btw u 0 w = true), (Ret cfx 83 [iV v, iV 0, iV g] (V.raw (.bool (M.btw v 0 g)))), zY, (M.btw v 0 g = true), ((zq3 nm w g y n a b r p q k gs T cs U os W u v s m c ps)), ((zq2 c gs T cs U os W nm w g y n a b r p q k u v s m ps)), zY, ((!M.tchA ps c u v s) = false), zN]) zk
    ⟨zds, (by exact below2 (lim := 0) rfl rfl 0 1 (N := []) hC (mix_all _ _) (ints_all _) rfl zn rfl rfl zz), zdf, rfl, zo, (lnPoint _ _), zdf, inR_i64 zo zo, rfl, (lnRadius _), (by exact below_ro (lim := 0) (N := []) rfl rfl (fun k => 2) (fun _ => false) (lnOthers os m W hz hmb) ⟨⟨_, _, rfl, ints_all _, .inl ⟨rfl, _, rfl⟩⟩, trivial⟩ (fun _ _ => rfl) rfl rfl rfl zn zz), zds, rfl, zo, zdf, inR_i64 zo zo, rfl, zo, zdf, inR_i64 zo zo, rfl, rfl, (lnBetween _ _ _), zdf, (lnBetween _ _ _), rfl, zdf, (by exact below_ro (lim := 0) (N := [some (.cells (ints ps) 46 (.row 3))]) rfl rfl (fun k => if k = 0 then 0 else 1) (fun _ => false) hpo ⟨⟨_, _, rfl, mix_all _ _, .inl ⟨rfl, _, rfl⟩⟩, ⟨_, _, rfl, ints_all _, .inl ⟨rfl, _, rfl⟩⟩, trivial⟩ (fun _ _ => rfl) rfl rfl rfl (new_row _ _ _) zz), (by exact below_ro (lim := 0) (N := []) rfl rfl (fun k => if k = 0 then 13 else 10) (fun _ => false) (lnContains ps c _ u v s zo zo hd hq2) ⟨⟨_, _, rfl, ints_all _, .inl ⟨rfl, _, rfl⟩⟩, ⟨_, _, rfl, rfl, .inl ⟨rfl, _, rfl⟩⟩, trivial⟩ (fun _ _ => rfl) rfl rfl rfl zn zz), rfl, zdf, rfl, trivial⟩) zk zt6
abbrev zq24 (gs : List Int) (T : Nat) (cs : List Int) (U : Nat) (os : List Int) (W : Nat) (nm : ByteArray) (w : Int) (g : Int) (y : Int) (n : Nat) (a : Int) (b : Int) (r : Int) (p : Int) (q : Int) (k : Nat) (u : Int) (v : Int) (s : Int) (m : Nat) : Heap := [bkG gs T, bkI cs U, bkI os W, bkW nm w g y n a b r p q k, bkP u v, some (.cells [iV u, iV v] 29 (.row 2)), bkW nm w g y n a b r p q k, bkP u v, some (.cells [iV (M.radE s), iV (M.othE os m)] 34 (.row 1)), bkP u v, some (.cells [iV u, iV v, iV s] 46 .rw), bkW nm w g y n a b r p q k, bkP u v]
theorem lnMay_ok_3 (E : Int) (hC : (zq60 nm w g y n a b r p q k gs T cs U E)) (os : List Int) (m : Nat) (W : Nat) (u v s : Int) (hz : m * 3 ≤ os.length) (hmb : m ≤ 1000000) (hE : E = 0) (hP : M.ptE u v = 0) (hS : M.radE s = 0) (hO : M.othE os m = 0) (ps : List Int) (c : Nat) (hpo : Meets cfx 0 38 [lwA nm w g y n a b r p q k] [bkG gs T, bkI cs U] (.slo 2 c) ([bkG gs T, bkI cs U, some (.cells (ints ps) 46 (.row 3))])) (hzl : ps.length = c * 3) (hc : c ≤ 100) (hm1 : m ≤ 1000) (hd : chkDisc u v s = 0) (hq1 : ∀ i : Nat, i < m → chkDisc (at' os (i * 3)) (at' os (i * 3 + 1)) (at' os (i * 3 + 2)) = 0) (hq2 : ∀ i : Nat, i < c → chkDisc (at' ps (i * 3)) (at' ps (i * 3 + 1)) (at' ps (i * 3 + 2)) = 0) (f0 : M.btw u 0 w = true) (f1 : M.btw v 0 g = false) : Meets cfx 0 55 [lwA nm w g y n a b r p q k, .raw (.agg #[.int .i64 u, .int .i64 v]), .raw (.int .i64 s), .slo 2 m] [bkG gs T, bkI cs U, bkI os W] (V.raw (.tuple { toList := [.bool false, .int .i64 0] })) [bkG gs T, bkI cs U, bkI os W] := by
  refine Meets.post (mev (ans := [Ans.go, Ans.go, Ans.reth (iV E) (zq43 gs T cs U os W nm w g y n a b r p q k u v), zF, zT, Ans.ret (iV (M.ptE u v)), zF, zF, Ans.ret (iV (M.radE s)), Ans.reth (iV (M.othE os m)) (zq35 gs T cs U os W nm w g y n a b r p q k u v), Ans.go, zT, zF, zT, zF, zF, zF, Ans.go, Ans.go, Ans.ret (V.raw (.bool (M.btw u 0 w))), zT, Ans.ret (V.raw (.bool (M.btw v 0 g))), zT, zF, zF, zF, zF]) (v := V.raw (.tuple { toList := [.bool false, .int .i64 0] })) (h' := (zq24 gs T cs U os W nm w g y n a b r p q k u v s m)) (cons := [(1 ≤ 9223372036854775807), ((zq23 nm w g y n a b r p q k gs T cs U os W u v E)), ((!decide (E = 0)) = false), zY, ((0 : Int) ≤ (0 : Int) ∧ (0 : Int) < (1 : Int)), (Ret cfx 53 [pV u v] (iV (M.ptE u v))), ((!decide (M.ptE u v = 0)) = false), (inR IntKind.i64 1), zN, (Ret cfx 78 [iV s] (iV (M.radE s))), ((zq20 m gs T cs U os W nm w g y n a b r p q k u v)), (2 ≤ 9223372036854775807), zY, ((0 : Int) ≤ (0 : Int) ∧ (0 : Int) < (2 : Int)), ((!decide (M.radE s = 0)) = false), (inR IntKind.i64 1), zY, ((0 : Int) ≤ (1 : Int) ∧ (1 : Int) < (2 : Int)), ((!decide (M.othE os m = 0)) = false), (inR IntKind.i64 2), zN, zN, (Ret cfx 83 [iV u, iV 0, iV w] (V.raw (.bool (M.btw u 0 w)))), (M.btw u 0 w = true), (Ret cfx 83 [iV v, iV 0, iV g] (V.raw (.bool (M.btw v 0 g)))), zY, (M.btw v 0 g = false), zN, zN, zN]) zk
    ⟨zds, (by exact below2 (lim := 0) rfl rfl 0 1 (N := []) hC (mix_all _ _) (ints_all _) rfl zn rfl rfl zz), zdf, rfl, zo, (lnPoint _ _), zdf, inR_i64 zo zo, rfl, (lnRadius _), (by exact below_ro (lim := 0) (N := []) rfl rfl (fun k => 2) (fun _ => false) (lnOthers os m W hz hmb) ⟨⟨_, _, rfl, ints_all _, .inl ⟨rfl, _, rfl⟩⟩, trivial⟩ (fun _ _ => rfl) rfl rfl rfl zn zz), zds, rfl, zo, zdf, inR_i64 zo zo, rfl, zo, zdf, inR_i64 zo zo, rfl, rfl, (lnBetween _ _ _), zdf, (lnBetween _ _ _), rfl, zdf, rfl, rfl, rfl, trivial⟩) zk zt6
theorem lnMay_ok_4 (E : Int) (hC : (zq60 nm w g y n a b r p q k gs T cs U E)) (os : List Int) (m : Nat) (W : Nat) (u v s : Int) (hz : m * 3 ≤ os.length) (hmb : m ≤ 1000000) (hE : E = 0) (hP : M.ptE u v = 0) (hS : M.radE s = 0) (hO : M.othE os m = 0) (ps : List Int) (c : Nat) (hpo : Meets cfx 0 38 [lwA nm w g y n a b r p q k] [bkG gs T, bkI cs U] (.slo 2 c) ([bkG gs T, bkI cs U, some (.cells (ints ps) 46 (.row 3))])) (hzl : ps.length = c * 3) (hc : c ≤ 100) (hm1 : m ≤ 1000) (hd : chkDisc u v s = 0) (hq1 : ∀ i : Nat, i < m → chkDisc (at' os (i * 3)) (at' os (i * 3 + 1)) (at' os (i * 3 + 2)) = 0) (hq2 : ∀ i : Nat, i < c → chkDisc (at' ps (i * 3)) (at' ps (i * 3 + 1)) (at' ps (i * 3 + 2)) = 0) (f0 : M.btw u 0 w = false) : Meets cfx 0 55 [lwA nm w g y n a b r p q k, .raw (.agg #[.int .i64 u, .int .i64 v]), .raw (.int .i64 s), .slo 2 m] [bkG gs T, bkI cs U, bkI os W] (V.raw (.tuple { toList := [.bool false, .int .i64 0] })) [bkG gs T, bkI cs U, bkI os W] := by
  refine Meets.post (mev (ans := [Ans.go, Ans.go, Ans.reth (iV E) (zq43 gs T cs U os W nm w g y n a b r p q k u v), zF, zT, Ans.ret (iV (M.ptE u v)), zF, zF, Ans.ret (iV (M.radE s)), Ans.reth (iV (M.othE os m)) (zq35 gs T cs U os W nm w g y n a b r p q k u v), Ans.go, zT, zF, zT, zF, zF, zF, Ans.go, Ans.go, Ans.ret (V.raw (.bool (M.btw u 0 w))), zF, zF, zF, zF, zF, zF]) (v := V.raw (.tuple { toList := [.bool false, .int .i64 0] })) (h' := (zq24 gs T cs U os W nm w g y n a b r p q k u v s m)) (cons := [(1 ≤ 9223372036854775807), ((zq23 nm w g y n a b r p q k gs T cs U os W u v E)), ((!decide (E = 0)) = false), zY, ((0 : Int) ≤ (0 : Int) ∧ (0 : Int) < (1 : Int)), (Ret cfx 53 [pV u v] (iV (M.ptE u v))), ((!decide (M.ptE u v = 0)) = false), (inR IntKind.i64 1), zN, (Ret cfx 78 [iV s] (iV (M.radE s))), ((zq20 m gs T cs U os W nm w g y n a b r p q k u v)), (2 ≤ 9223372036854775807), zY, ((0 : Int) ≤ (0 : Int) ∧ (0 : Int) < (2 : Int)), ((!decide (M.radE s = 0)) = false), (inR IntKind.i64 1), zY, ((0 : Int) ≤ (1 : Int) ∧ (1 : Int) < (2 : Int)), ((!decide (M.othE os m = 0)) = false), (inR IntKind.i64 2), zN, zN, (Ret cfx 83 [iV u, iV 0, iV w] (V.raw (.bool (M.btw u 0 w)))), (M.btw u 0 w = false), zN, zN, zN, zN, zN]) zk
    ⟨zds, (by exact below2 (lim := 0) rfl rfl 0 1 (N := []) hC (mix_all _ _) (ints_all _) rfl zn rfl rfl zz), zdf, rfl, zo, (lnPoint _ _), zdf, inR_i64 zo zo, rfl, (lnRadius _), (by exact below_ro (lim := 0) (N := []) rfl rfl (fun k => 2) (fun _ => false) (lnOthers os m W hz hmb) ⟨⟨_, _, rfl, ints_all _, .inl ⟨rfl, _, rfl⟩⟩, trivial⟩ (fun _ _ => rfl) rfl rfl rfl zn zz), zds, rfl, zo, zdf, inR_i64 zo zo, rfl, zo, zdf, inR_i64 zo zo, rfl, rfl, (lnBetween _ _ _), zdf, rfl, rfl, rfl, rfl, rfl, trivial⟩) zk zt6
theorem lnMay_ok (E : Int) (hC : (zq60 nm w g y n a b r p q k gs T cs U E)) (os : List Int) (m : Nat) (W : Nat) (u v s : Int) (hz : m * 3 ≤ os.length) (hmb : m ≤ 1000000) (hE : E = 0) (hP : M.ptE u v = 0) (hS : M.radE s = 0) (hO : M.othE os m = 0) (ps : List Int) (c : Nat) (hpo : Meets cfx 0 38 [lwA nm w g y n a b r p q k] [bkG gs T, bkI cs U] (.slo 2 c) ([bkG gs T, bkI cs U, some (.cells (ints ps) 46 (.row 3))])) (hzl : ps.length = c * 3) (hc : c ≤ 100) (hm1 : m ≤ 1000) (hd : chkDisc u v s = 0) (hq1 : ∀ i : Nat, i < m → chkDisc (at' os (i * 3)) (at' os (i * 3 + 1)) (at' os (i * 3 + 2)) = 0) (hq2 : ∀ i : Nat, i < c → chkDisc (at' ps (i * 3)) (at' ps (i * 3 + 1)) (at' ps (i * 3 + 2)) = 0) : Meets cfx 0 55 [lwA nm w g y n a b r p q k, .raw (.agg #[.int .i64 u, .int .i64 v]), .raw (.int .i64 s), .slo 2 m] [bkG gs T, bkI cs U, bkI os W] (.raw (.tuple #[.bool ((M.btw u 0 w && M.btw v 0 g) && (!M.tchA ps c u v s && !M.tchA os m u v s)), .int .i64 0])) [bkG gs T, bkI cs U, bkI os W] := by
  by_cases f0 : M.btw u 0 w = true
  ·
    by_cases f1 : M.btw v 0 g = true
    ·
      by_cases f2 : M.tchA ps c u v s = false
      ·
        have e : (.raw (.tuple #[.bool ((M.btw u 0 w && M.btw v 0 g) && (!M.tchA ps c u v s && !M.tchA os m u v s)), .int .i64 0]) : V) = V.raw (.tuple { toList := [.bool !M.tchA os m u v s, .int .i64 0] }) := by (first | rfl | simp_all)
        rw [e]
        exact lnMay_ok_1 nm gs cs n k T U w g y a b r p q E hC os m W u v s hz hmb hE hP hS hO ps c hpo hzl hc hm1 hd hq1 hq2 f0 f1 f2
      ·
        replace f2 : M.tchA ps c u v s = true := by simpa using f2
        have e : (.raw (.tuple #[.bool ((M.btw u 0 w && M.btw v 0 g) && (!M.tchA ps c u v s && !M.tchA os m u v s)), .int .i64 0]) : V) = V.raw (.tuple { toList := [.bool false, .int .i64 0] }) := by (first | rfl | simp_all)
        rw [e]
        exact lnMay_ok_2 nm gs cs n k T U w g y a b r p q E hC os m W u v s hz hmb hE hP hS hO ps c hpo hzl hc hm1 hd hq1 hq2 f0 f1 f2
    ·
      replace f1 : M.btw v 0 g = false := by simpa using f1
      have e : (.raw (.tuple #[.bool ((M.btw u 0 w && M.btw v 0 g) && (!M.tchA ps c u v s && !M.tchA os m u v s)), .int .i64 0]) : V) = V.raw (.tuple { toList := [.bool false, .int .i64 0] }) := by (first | rfl | simp_all)
      rw [e]
      exact lnMay_ok_3 nm gs cs n k T U w g y a b r p q E hC os m W u v s hz hmb hE hP hS hO ps c hpo hzl hc hm1 hd hq1 hq2 f0 f1
  ·
    replace f0 : M.btw u 0 w = false := by simpa using f0
    have e : (.raw (.tuple #[.bool ((M.btw u 0 w && M.btw v 0 g) && (!M.tchA ps c u v s && !M.tchA os m u v s)), .int .i64 0]) : V) = V.raw (.tuple { toList := [.bool false, .int .i64 0] }) := by (first | rfl | simp_all)
    rw [e]
    exact lnMay_ok_4 nm gs cs n k T U w g y a b r p q E hC os m W u v s hz hmb hE hP hS hO ps c hpo hzl hc hm1 hd hq1 hq2 f0
theorem lnOn_ok_1 (E : Int) (hC : (zq60 nm w g y n a b r p q k gs T cs U E)) (u v : Int) (hE : E = 0) (hP : M.ptE u v = 0) (f0 : M.btw u 0 w = true) : Meets cfx 0 22 [lwA nm w g y n a b r p q k, .raw (.agg #[.int .i64 u, .int .i64 v])] [bkG gs T, bkI cs U] (V.raw (.tuple { toList := [.bool (M.btw v 0 g), .int .i64 0] })) [bkG gs T, bkI cs U] := by
  refine Meets.post (mev (ans := [Ans.go, Ans.olds [], Ans.reth (iV E) [bkG gs T, bkI cs U, some (.cells (lwC nm w g y n a b r p q k) 63 .ro), some (.cells [iV u, iV v] 29 .ro)], Ans.ret (iV (M.ptE u v)), Ans.go, zT, zF, zT, zF, zF, zF, Ans.go, Ans.ret (V.raw (.bool (M.btw u 0 w))), zT, Ans.ret (V.raw (.bool (M.btw v 0 g))), zT]) (v := V.raw (.tuple { toList := [.bool (M.btw v 0 g), .int .i64 0] })) (h' := [bkG gs T, bkI cs U, bkW nm w g y n a b r p q k, bkP u v, some (.cells [iV E, iV (M.ptE u v)] 34 (.row 1)), bkW nm w g y n a b r p q k, bkP u v]) (cons := [(Meets cfx 0 37 [lwA nm w g y n a b r p q k] [bkG gs T, bkI cs U, some (.cells (lwC nm w g y n a b r p q k) 63 .ro), some (.cells [iV u, iV v] 29 .ro)] (iV E) [bkG gs T, bkI cs U, some (.cells (lwC nm w g y n a b r p q k) 63 .ro), some (.cells [iV u, iV v] 29 .ro)]), (Ret cfx 53 [pV u v] (iV (M.ptE u v))), (2 ≤ 9223372036854775807), zY, ((0 : Int) ≤ (0 : Int) ∧ (0 : Int) < (2 : Int)), ((!decide (E = 0)) = false), (inR IntKind.i64 1), zY, ((0 : Int) ≤ (1 : Int) ∧ (1 : Int) < (2 : Int)), ((!decide (M.ptE u v = 0)) = false), (inR IntKind.i64 2), zN, zN, (Ret cfx 83 [iV u, iV 0, iV w] (V.raw (.bool (M.btw u 0 w)))), (M.btw u 0 w = true), (Ret cfx 83 [iV v, iV 0, iV g] (V.raw (.bool (M.btw v 0 g)))), zY]) zk
    ⟨(by exact below2 (lim := 0) rfl rfl 0 1 (N := []) hC (mix_all _ _) (ints_all _) rfl zn rfl rfl zz), (lnPoint _ _), zds, rfl, zo, zdf, inR_i64 zo zo, rfl, zo, zdf, inR_i64 zo zo, rfl, rfl, (lnBetween _ _ _), zdf, (lnBetween _ _ _), rfl, trivial⟩) zk zt0
theorem lnOn_ok_2 (E : Int) (hC : (zq60 nm w g y n a b r p q k gs T cs U E)) (u v : Int) (hE : E = 0) (hP : M.ptE u v = 0) (f0 : M.btw u 0 w = false) : Meets cfx 0 22 [lwA nm w g y n a b r p q k, .raw (.agg #[.int .i64 u, .int .i64 v])] [bkG gs T, bkI cs U] (V.raw (.tuple { toList := [.bool false, .int .i64 0] })) [bkG gs T, bkI cs U] := by
  refine Meets.post (mev (ans := [Ans.go, Ans.olds [], Ans.reth (iV E) [bkG gs T, bkI cs U, some (.cells (lwC nm w g y n a b r p q k) 63 .ro), some (.cells [iV u, iV v] 29 .ro)], Ans.ret (iV (M.ptE u v)), Ans.go, zT, zF, zT, zF, zF, zF, Ans.go, Ans.ret (V.raw (.bool (M.btw u 0 w))), zF, zF]) (v := V.raw (.tuple { toList := [.bool false, .int .i64 0] })) (h' := [bkG gs T, bkI cs U, bkW nm w g y n a b r p q k, bkP u v, some (.cells [iV E, iV (M.ptE u v)] 34 (.row 1)), bkW nm w g y n a b r p q k, bkP u v]) (cons := [(Meets cfx 0 37 [lwA nm w g y n a b r p q k] [bkG gs T, bkI cs U, some (.cells (lwC nm w g y n a b r p q k) 63 .ro), some (.cells [iV u, iV v] 29 .ro)] (iV E) [bkG gs T, bkI cs U, some (.cells (lwC nm w g y n a b r p q k) 63 .ro), some (.cells [iV u, iV v] 29 .ro)]), (Ret cfx 53 [pV u v] (iV (M.ptE u v))), (2 ≤ 9223372036854775807), zY, ((0 : Int) ≤ (0 : Int) ∧ (0 : Int) < (2 : Int)), ((!decide (E = 0)) = false), (inR IntKind.i64 1), zY, ((0 : Int) ≤ (1 : Int) ∧ (1 : Int) < (2 : Int)), ((!decide (M.ptE u v = 0)) = false), (inR IntKind.i64 2), zN, zN, (Ret cfx 83 [iV u, iV 0, iV w] (V.raw (.bool (M.btw u 0 w)))), (M.btw u 0 w = false), zN]) zk
    ⟨(by exact below2 (lim := 0) rfl rfl 0 1 (N := []) hC (mix_all _ _) (ints_all _) rfl zn rfl rfl zz), (lnPoint _ _), zds, rfl, zo, zdf, inR_i64 zo zo, rfl, zo, zdf, inR_i64 zo zo, rfl, rfl, (lnBetween _ _ _), zdf, rfl, trivial⟩) zk zt0
theorem lnOn_ok (E : Int) (hC : (zq60 nm w g y n a b r p q k gs T cs U E)) (u v : Int) (hE : E = 0) (hP : M.ptE u v = 0) : Meets cfx 0 22 [lwA nm w g y n a b r p q k, .raw (.agg #[.int .i64 u, .int .i64 v])] [bkG gs T, bkI cs U] (.raw (.tuple #[.bool (M.btw u 0 w && M.btw v 0 g), .int .i64 0])) [bkG gs T, bkI cs U] := by
  by_cases f0 : M.btw u 0 w = true
  ·
    have e : (.raw (.tuple #[.bool (M.btw u 0 w && M.btw v 0 g), .int .i64 0]) : V) = V.raw (.tuple { toList := [.bool (M.btw v 0 g), .int .i64 0] }) := by (first | rfl | simp_all)
    rw [e]
    exact lnOn_ok_1 nm gs cs n k T U w g y a b r p q E hC u v hE hP f0
  ·
    replace f0 : M.btw u 0 w = false := by simpa using f0
    have e : (.raw (.tuple #[.bool (M.btw u 0 w && M.btw v 0 g), .int .i64 0]) : V) = V.raw (.tuple { toList := [.bool false, .int .i64 0] }) := by (first | rfl | simp_all)
    rw [e]
    exact lnOn_ok_2 nm gs cs n k T U w g y a b r p q E hC u v hE hP f0
theorem gr_ints : ints [100, 0, 0] = ([.raw (.int .i64 100), .raw (.int .i64 0), .raw (.int .i64 0)] : List V) := by kernel_rfl
theorem grf_mix : mix [false, false, false, false, true] [50000, 40000, 6000, 500, 0, 30000, 100000, 6200, 500, 1] = ([.raw (.int .i64 50000), .raw (.int .i64 40000), .raw (.int .i64 6000), .raw (.int .i64 500), .raw (.bool false), .raw (.int .i64 30000), .raw (.int .i64 100000), .raw (.int .i64 6200), .raw (.int .i64 500), .raw (.bool true)] : List V) := by kernel_rfl
theorem grf_check (nm : ByteArray) (hnm : nm.size ≤ 100) (hE : M.lawnE nm [50000, 40000, 6000, 500, 0, 30000, 100000, 6200, 500, 1] [100, 0, 0] 2 1 100000 200000 5000 50000 100000 1200 1 1 = 0) : Meets cfx 0 37 [.agg [.raw (.string nm), .raw (.int .i64 100000), .raw (.int .i64 200000), .raw (.int .i64 5000), .slo 0 2, .raw (.int .i64 50000), .raw (.int .i64 100000), .raw (.int .i64 1200), .raw (.int .i64 1), .raw (.int .i64 1), .slo 1 1]] [some (.cells (mix [false, false, false, false, true] [50000, 40000, 6000, 500, 0, 30000, 100000, 6200, 500, 1]) 66 .ro), some (.cells (ints [100, 0, 0]) 118 .ro)] (.raw (.int .i64 0)) [some (.cells (mix [false, false, false, false, true] [50000, 40000, 6000, 500, 0, 30000, 100000, 6200, 500, 1]) 66 .ro), some (.cells (ints [100, 0, 0]) 118 .ro)] := by
  have h := lnCheck nm [50000, 40000, 6000, 500, 0, 30000, 100000, 6200, 500, 1] [100, 0, 0] 2 1 66 118 100000 200000 5000 50000 100000 1200 1 1 (by decide) (by decide) (by decide) (by decide) hnm
  rw [hE] at h
  exact h
theorem grf_Check (nm : ByteArray) (hnm : nm.size ≤ 100) (hE : M.lawnE nm [50000, 40000, 6000, 500, 0, 30000, 100000, 6200, 500, 1] [100, 0, 0] 2 1 100000 200000 5000 50000 100000 1200 1 1 = 0) : Meets cfx 0 37 [.agg [.raw (.string nm), .raw (.int .i64 100000), .raw (.int .i64 200000), .raw (.int .i64 5000), .slo 0 2, .raw (.int .i64 50000), .raw (.int .i64 100000), .raw (.int .i64 1200), .raw (.int .i64 1), .raw (.int .i64 1), .slo 1 1]] [some (.cells [.raw (.int .i64 50000), .raw (.int .i64 40000), .raw (.int .i64 6000), .raw (.int .i64 500), .raw (.bool false), .raw (.int .i64 30000), .raw (.int .i64 100000), .raw (.int .i64 6200), .raw (.int .i64 500), .raw (.bool true)] 66 .ro), some (.cells [.raw (.int .i64 100), .raw (.int .i64 0), .raw (.int .i64 0)] 118 .ro)] (.raw (.int .i64 0)) [some (.cells [.raw (.int .i64 50000), .raw (.int .i64 40000), .raw (.int .i64 6000), .raw (.int .i64 500), .raw (.bool false), .raw (.int .i64 30000), .raw (.int .i64 100000), .raw (.int .i64 6200), .raw (.int .i64 500), .raw (.bool true)] 66 .ro), some (.cells [.raw (.int .i64 100), .raw (.int .i64 0), .raw (.int .i64 0)] 118 .ro)] := by
  have h := grf_check nm hnm hE
  revert h; (try delta lwA lwC bkG bkI bkW bkP); intro h
  rw [grf_mix, gr_ints] at h
  exact h
theorem grf_posts (nm : ByteArray) : Meets cfx 0 38 [.agg [.raw (.string nm), .raw (.int .i64 100000), .raw (.int .i64 200000), .raw (.int .i64 5000), .slo 0 2, .raw (.int .i64 50000), .raw (.int .i64 100000), .raw (.int .i64 1200), .raw (.int .i64 1), .raw (.int .i64 1), .slo 1 1]] [some (.cells (mix [false, false, false, false, true] [50000, 40000, 6000, 500, 0, 30000, 100000, 6200, 500, 1]) 66 .ro), some (.cells (ints [100, 0, 0]) 118 .ro)] (.slo 2 5) [some (.cells (mix [false, false, false, false, true] [50000, 40000, 6000, 500, 0, 30000, 100000, 6200, 500, 1]) 66 .ro), some (.cells (ints [100, 0, 0]) 118 .ro), some (.cells (ints (M.rowP [50000, 40000, 6000, 500, 0, 30000, 100000, 6200, 500, 1] 2 50000 100000 1200)) 46 (.row 3))] :=
  lnPosts nm [50000, 40000, 6000, 500, 0, 30000, 100000, 6200, 500, 1] [100, 0, 0] 2 1 66 118 100000 200000 5000 50000 100000 1200 1 1 (by decide) (by decide) (by kernel_rfl)
theorem gr_On (nm : ByteArray) (hnm : nm.size ≤ 100) (hE : M.lawnE nm [50000, 40000, 6000, 500, 0, 30000, 100000, 6200, 500, 1] [100, 0, 0] 2 1 100000 200000 5000 50000 100000 1200 1 1 = 0) : Meets cfx 0 22 [.agg [.raw (.string nm), .raw (.int .i64 100000), .raw (.int .i64 200000), .raw (.int .i64 5000), .slo 0 2, .raw (.int .i64 50000), .raw (.int .i64 100000), .raw (.int .i64 1200), .raw (.int .i64 1), .raw (.int .i64 1), .slo 1 1], .raw (.agg #[.int .i64 5, .int .i64 5])] [some (.cells [.raw (.int .i64 50000), .raw (.int .i64 40000), .raw (.int .i64 6000), .raw (.int .i64 500), .raw (.bool false), .raw (.int .i64 30000), .raw (.int .i64 100000), .raw (.int .i64 6200), .raw (.int .i64 500), .raw (.bool true)] 66 .ro), some (.cells [.raw (.int .i64 100), .raw (.int .i64 0), .raw (.int .i64 0)] 118 .ro)] (.raw (.tuple #[.bool true, .int .i64 0])) [some (.cells [.raw (.int .i64 50000), .raw (.int .i64 40000), .raw (.int .i64 6000), .raw (.int .i64 500), .raw (.bool false), .raw (.int .i64 30000), .raw (.int .i64 100000), .raw (.int .i64 6200), .raw (.int .i64 500), .raw (.bool true)] 66 .ro), some (.cells [.raw (.int .i64 100), .raw (.int .i64 0), .raw (.int .i64 0)] 118 .ro)] := by
  have h := lnOn_ok nm [50000, 40000, 6000, 500, 0, 30000, 100000, 6200, 500, 1] [100, 0, 0] 2 1 66 118 100000 200000 5000 50000 100000 1200 1 1 0 (grf_check nm hnm hE) 5 5 rfl (by decide +kernel)
  revert h; (try delta lwA lwC bkG bkI bkW bkP zq60); intro h
  rw [grf_mix, gr_ints] at h
  exact h
theorem gr_May (nm : ByteArray) (hnm : nm.size ≤ 100) (hE : M.lawnE nm [50000, 40000, 6000, 500, 0, 30000, 100000, 6200, 500, 1] [100, 0, 0] 2 1 100000 200000 5000 50000 100000 1200 1 1 = 0) : Meets cfx 0 55 [.agg [.raw (.string nm), .raw (.int .i64 100000), .raw (.int .i64 200000), .raw (.int .i64 5000), .slo 0 2, .raw (.int .i64 50000), .raw (.int .i64 100000), .raw (.int .i64 1200), .raw (.int .i64 1), .raw (.int .i64 1), .slo 1 1], .raw (.agg #[.int .i64 30000, .int .i64 60000]), .raw (.int .i64 2946), .slo 2 0] [some (.cells [.raw (.int .i64 50000), .raw (.int .i64 40000), .raw (.int .i64 6000), .raw (.int .i64 500), .raw (.bool false), .raw (.int .i64 30000), .raw (.int .i64 100000), .raw (.int .i64 6200), .raw (.int .i64 500), .raw (.bool true)] 66 .ro), some (.cells [.raw (.int .i64 100), .raw (.int .i64 0), .raw (.int .i64 0)] 118 .ro), some (.cells [] 46 .ro)] (.raw (.tuple #[.bool true, .int .i64 0])) [some (.cells [.raw (.int .i64 50000), .raw (.int .i64 40000), .raw (.int .i64 6000), .raw (.int .i64 500), .raw (.bool false), .raw (.int .i64 30000), .raw (.int .i64 100000), .raw (.int .i64 6200), .raw (.int .i64 500), .raw (.bool true)] 66 .ro), some (.cells [.raw (.int .i64 100), .raw (.int .i64 0), .raw (.int .i64 0)] 118 .ro), some (.cells [] 46 .ro)] := by
  have h := lnMay_ok nm [50000, 40000, 6000, 500, 0, 30000, 100000, 6200, 500, 1] [100, 0, 0] 2 1 66 118 100000 200000 5000 50000 100000 1200 1 1 0 (grf_check nm hnm hE) [] 0 46 30000 60000 2946 (by decide) (by decide) rfl (by decide +kernel) (by decide +kernel) (by decide +kernel) (M.rowP [50000, 40000, 6000, 500, 0, 30000, 100000, 6200, 500, 1] 2 50000 100000 1200) 5 (grf_posts nm) (by decide) (by decide) (by decide) (by decide +kernel) (by decide +kernel) (by decide +kernel)
  revert h; (try delta lwA lwC bkG bkI bkW bkP zq60); intro h
  rw [show ((M.btw 30000 0 100000 && M.btw 60000 0 200000) && (!M.tchA (M.rowP [50000, 40000, 6000, 500, 0, 30000, 100000, 6200, 500, 1] 2 50000 100000 1200) 5 30000 60000 2946 && !M.tchA [] 0 30000 60000 2946)) = true by decide +kernel, grf_mix, gr_ints] at h
  exact h
end Go.Proofs.YtgjbdlahjbppoaaDoor
end
section
namespace Go.Proofs.YtgjbdlahjbppoaaDoor.K
open Go Go.Deep Go.ChangeShapes Go.WideShapes Go.ChangeAt Go.RowKit
section
variable {H : Type} {enc : TypeId × Value → H} {P : Program} {w : World} {base : Nat} {spare : Nat → Bool} {held : Bool} {r : Reach} {b0 : Nat}
end
end Go.Proofs.YtgjbdlahjbppoaaDoor.K
namespace Go.Proofs.YtgjbdlahjbppoaaDoor.E2
open Go Go.RowKit
def RowsAt (ls : List Loc) (H : Heap) (w : World) : Prop := ∀ (i : Nat) (B : Blk), H[i]? = some (some B) → ∃ cs T, B = .cells cs T .ro ∧ cs.all isRawV = true ∧ ∀ ρ, CellsOk ρ (ls.getD i (Loc.at 0)) w cs T .ro
theorem rowsAt_nil {w : World} : RowsAt [] [] w := fun i B h => by simp at h
theorem rowsAt_cons {cs : List V} {T : TypeId} {l : Loc} {ls : List Loc} {H : Heap} {w : World} (ha : cs.all isRawV = true) (h0 : ∀ ρ, CellsOk ρ l w cs T .ro) (hr : RowsAt ls H w) : RowsAt (l :: ls) (some (.cells cs T .ro) :: H) w := fun i B h => by
  match i with
  | 0 =>
    simp only [List.getElem?_cons_zero, Option.some.injEq] at h
    exact ⟨cs, T, h.symm, ha, h0⟩
  | i + 1 => exact hr i B (by simpa using h)
end Go.Proofs.YtgjbdlahjbppoaaDoor.E2
end
section
namespace Go.Proofs.YtgjbdlahjbppoaaDoor.K
open Go Go.Deep Go.ChangeShapes Go.WideShapes Go.ChangeAt Go.RowKit
def tabFs (P : Program) (rec : TypeId → DataW Unit → Option (List Value)) : Nat → List Field → List (DataW Unit) → Option (List Value)
  | _, [], [] => some []
  | off, f :: fs, d :: ds => match rec f.type d with
    | some l => if f.offset = off ∧ P.cellsOf f.type = l.length then (tabFs P rec (off + l.length) fs ds).map (l ++ ·) else none
    | none => none
  | _, _, _ => none
def tabEs (rec : DataW Unit → Option (List Value)) (m : Nat) : List (DataW Unit) → Option (List Value)
  | [] => some []
  | d :: ds => match rec d with
    | some l => if l.length = m then (tabEs rec m ds).map (l ++ ·) else none
    | none => none
def tabK (P : Program) : Nat → TypeId → DataW Unit → Option (List Value)
  | 0, _, _ => none
  | d + 1, t, x => match P.underlying t with
    | some .bool => (match x with
      | .lit (.bool b) => some [.bool b]
      | _ => none)
    | some (.int k) => (match x with
      | .lit (.int k' n) => some [.int k' n]
      | _ => none)
    | some (.struct fs) => (match x with
      | .agg ps => match tabFs P (tabK P d) 0 fs.toList ps with
        | some l => if l.length = P.cellsOf t then some l else none
        | none => none
      | _ => none)
    | some (.array n e) => (match x with
      | .agg ps => if ps.length = n then (match tabEs (tabK P d e) (P.cellsOf e) ps with
        | some l => if l.length = P.cellsOf t then some l else none
        | none => none) else none
      | _ => none)
    | _ => none
section
variable {enc : TypeId × Value → Unit} {P : Program} {w : World} {base : Nat} {spare : Nat → Bool} {held : Bool}
theorem tab_fields {rec : TypeId → DataW Unit → Option (List Value)} {n : Nat} (hrec : ∀ t l cs x, rec t x.1 = some l → DataW.trod enc P w base spare held n t cs = some x → cs = l) (cs : List Value) :
    ∀ (fs : List Field) (xs : List (DataW Unit × List MemPlace)) (off : Nat) (l : List Value), tabFs P rec off fs (xs.map (·.1)) = some l → off + l.length ≤ cs.length → (∀ (i : Nat) (f : Field), fs[i]? = some f → DataW.trod enc P w base spare held n f.type ((cs.drop f.offset).take (P.cellsOf f.type)) = xs[i]?) → (cs.drop off).take l.length = l
  | [], [], off, l, h, hl, hf => by
    simp only [List.map_nil, tabFs, Option.some.injEq] at h
    subst h
    simp
  | [], x :: xs, off, l, h, hl, hf => by simp [tabFs] at h
  | f :: fs, [], off, l, h, hl, hf => by simp [tabFs] at h
  | f :: fs, x :: xs, off, l, h, hl, hf => by
    simp only [List.map_cons, tabFs] at h
    split at h
    · rename_i m hm
      split at h
      · rename_i hh
        obtain ⟨h1, h2⟩ := hh
        rw [Option.map_eq_some_iff] at h
        obtain ⟨k, hk, rfl⟩ := h
        have hx := hf 0 f rfl
        rw [h1, h2, List.getElem?_cons_zero] at hx
        have a1 := hrec _ _ _ _ hm hx
        have a2 := tab_fields hrec cs fs xs (off + m.length) k hk (by simp at hl; omega) (fun i g hg => by simpa using hf (i + 1) g (by simpa using hg))
        rw [List.length_append, List.take_add, a1, List.drop_drop, a2]
      · cases h
    · cases h
theorem tab_elems {rec : DataW Unit → Option (List Value)} {n m : Nat} {e : TypeId} (hrec : ∀ l cs x, rec x.1 = some l → DataW.trod enc P w base spare held n e cs = some x → cs = l) (cs : List Value) :
    ∀ (xs : List (DataW Unit × List MemPlace)) (k : Nat) (l : List Value), tabEs rec m (xs.map (·.1)) = some l → k * m + l.length ≤ cs.length → (∀ i : Nat, i < xs.length → DataW.trod enc P w base spare held n e ((cs.drop ((k + i) * m)).take m) = xs[i]?) → (cs.drop (k * m)).take l.length = l
  | [], k, l, h, hl, hf => by
    simp only [List.map_nil, tabEs, Option.some.injEq] at h
    subst h
    simp
  | x :: xs, k, l, h, hl, hf => by
    simp only [List.map_cons, tabEs] at h
    split at h
    · rename_i y hy
      split at h
      · rename_i hh
        rw [Option.map_eq_some_iff] at h
        obtain ⟨z, hz, rfl⟩ := h
        have hx := hf 0 (by simp)
        rw [Nat.add_zero, List.getElem?_cons_zero] at hx
        have a1 := hrec _ _ _ hy hx
        have e1 : (k + 1) * m = k * m + y.length := by rw [hh, Nat.add_mul, Nat.one_mul]
        have a2 := tab_elems hrec cs xs (k + 1) z hz (by rw [e1]; simp at hl; omega) (fun i hi => by
          have := hf (i + 1) (by simp; omega)
          rw [show k + 1 + i = k + (i + 1) by omega]
          simpa using this)
        rw [List.length_append, List.take_add, hh, a1, List.drop_drop, show k * m + m = (k + 1) * m by rw [e1, hh], a2]
      · cases h
    · cases h
theorem tab_cells : ∀ (d fuel : Nat) (t : TypeId) (l cs : List Value) (x : DataW Unit × List MemPlace), tabK P d t x.1 = some l → DataW.trod enc P w base spare held fuel t cs = some x → cs = l
  | 0, fuel, t, l, cs, x, h, hx => by simp [tabK] at h
  | d + 1, fuel, t, l, cs, x, h, hx => by
    simp only [tabK] at h
    split at h
    · rename_i hu
      cases fuel with
      | zero => simp [DataW.trod] at hx
      | succ m =>
        unfold DataW.trod at hx
        rw [hu] at hx
        split at hx <;> simp_all
        obtain ⟨rfl⟩ := hx
        simp_all
    · rename_i k hu
      obtain ⟨n, rfl, rfl, _⟩ := DataW.trod_int hu hx
      simpa using h
    · rename_i fs hu
      obtain ⟨xs, n, _, rfl, hl, hxl, hf⟩ := DataW.trod_struct hu hx
      simp only at h
      split at h
      · rename_i m hm
        split at h
        · rename_i hlen
          simp only [Option.some.injEq] at h
          subst h
          have := tab_fields (n := n) (fun t l cs x h1 h2 => tab_cells d n t l cs x h1 h2) cs fs.toList xs 0 m hm (by omega) (fun i f hi => hf i f (by simpa using hi))
          rwa [List.drop_zero, List.take_of_length_le (by omega)] at this
        · cases h
      · cases h
    · rename_i n e hu
      obtain ⟨xs, q, _, rfl, hl, hxl, hf⟩ := DataW.trod_array hu hx
      simp only at h
      split at h
      · split at h
        · rename_i m hm
          split at h
          · rename_i hlen
            simp only [Option.some.injEq] at h
            subst h
            have := tab_elems (n := q) (fun l cs x h1 h2 => tab_cells d q e l cs x h1 h2) cs xs 0 m hm (by omega) (fun i hi => by rw [Nat.zero_add]; exact hf i (by omega))
            rwa [Nat.zero_mul, List.drop_zero, List.take_of_length_le (by omega)] at this
          · cases h
        · cases h
      · cases h
    · cases h
end
end Go.Proofs.YtgjbdlahjbppoaaDoor.K
namespace Go.Proofs.YtgjbdlahjbppoaaDoor
open Go Go.RowKit Go.Proofs.YtgjbdlahjbppoaaDoor.E2
noncomputable def cfxg : Cfg := ⟨Tryd.prog, [], 0, [(0, 0)], true, fun f => (Tryd.prog.funcs[f]?).any fun fn => !fn.body.isNone⟩
theorem cfxg_mixed : cfxg.P.follows .mixedOrders = true := cfx_mixed
theorem cfxg_call : ∀ f, cfxg.fns f = true → Callable cfxg.P f := cfx_call
theorem relH_up {ρ : Ren} {h : Heap} {w : World} (R : RelH cfxg ρ h w) : RelH cfx ρ h w := ⟨R.cell, R.inj, R.sco, fun p hp => by simp [cfx] at hp, R.big, R.base⟩
theorem relH_dn {lim n : Nat} {ρ ρ' : Ren} {h h' : Heap} {w w' : World} (R : RelH cfxg ρ h w) (S : RelH cfx ρ' h' w') (F : Fr lim n ρ h w ρ' h' w') (h0 : 0 < n) : RelH cfxg ρ' h' w' :=
  ⟨S.cell, S.inj, S.sco, fun p hp => by
    obtain ⟨a1, a2, a3⟩ := R.glob p hp
    have e : p.2 = 0 := by
      have : p ∈ [(0, 0)] := hp
      rw [List.mem_singleton] at this
      rw [this]
    have e2 : ρ'.blk p.2 = ρ.blk p.2 := F.ren _ (by omega)
    have := F.len
    exact ⟨by rw [e2]; exact a1, by rw [e2]; exact a2, by omega⟩, S.big, S.base⟩
theorem up_meets {lim : Nat} {f : FuncId} {args : List V} {h h' : Heap} {v : V} (hm : Meets cfx lim f args h v h') (h0 : 0 < h.length) : Meets cfxg lim f args h v h' := fun ρ w R hu =>
  Calls.mono (hm ρ w (relH_up R) hu) fun e w' ⟨ρ', h1, h2, h3, h4, h5⟩ => ⟨ρ', h1, h2, relH_dn R h3 h4 h0, h4, h5⟩
theorem up_ret {f : FuncId} {args : List V} {v : V} (hr : Ret cfx f args v) : Ret cfxg f args v := fun h lim hL hl => by
  rcases Nat.eq_zero_or_pos h.length with h0 | h0
  · intro ρ w R
    have := (R.glob _ (List.mem_singleton.2 rfl)).2.2
    omega
  · exact up_meets (hr h lim (Nat.zero_le _) hl) h0
theorem reshape2g {lim : Nat} (n0 : Nat) (h0 : 0 < n0) (ks : List (Option Nat)) {t T : List V} {h H : Heap} (hq : (Nat.ble n0 h.length && Nat.beq H.length (n0 + ks.length) && Nat.ble lim n0 && Nat.beq T.length t.length && (anyOwn 0 T && T.all (·.slotOk H.length) && nilOks (nlOf n0 ks) T) && keysOk lim n0 h.length H ks) = true)
    (hT : mvs (tauOf n0 ks) (nlOf n0 ks) T = hideBy T t) (hE : Paid (entries (tauOf n0 ks) (nlOf n0 ks) h H.length 0 H))
    {ρ : Ren} {a : Act} {w : World} (RT : RelT ρ h.length t a) (RH : RelH cfxg ρ h w) : ∃ ρ', RelT ρ' H.length T a ∧ RelH cfxg ρ' H w ∧ Fr lim n0 ρ h w ρ' H w := by
  obtain ⟨ρ', a1, a2, a3⟩ := reshape2 (c := cfx) (lim := lim) n0 cfx_G rfl ks hq hT hE RT (relH_up RH)
  exact ⟨ρ', a1, relH_dn RH a2 a3 h0, a3⟩
theorem ret_laid {f : FuncId} {v : Value} {cs : List V} {T : TypeId} (hm : Meets cfxg 0 f [] [some (.cells cs T .ro)] (.raw v) [some (.cells cs T .ro)]) (hr : cs.all isRawV = true) {h : Heap} {lim : Nat} (h0 : h[0]? = some (some (.cells cs T .ro))) (hl : lim ≤ h.length) : Meets cfxg lim f [] h (.raw v) h := by
  intro ρ w RH hu
  have only : ∀ (i : Nat) (B : Blk), ([some (.cells cs T .ro)] : Heap)[i]? = some (some B) → i = 0 ∧ B = .cells cs T .ro := fun i B hB => by
    match i with
    | 0 =>
      simp only [List.getElem?_cons_zero, Option.some.injEq] at hB
      exact ⟨rfl, hB.symm⟩
    | i + 1 => simp at hB
  have R0 : RelH cfxg ρ [some (.cells cs T .ro)] w := by
    refine ⟨fun i B hB => ?_, fun i j hi hj he => ?_, fun i B hB => ?_, fun p hp => ?_, Nat.zero_le _, fun i hi => absurd hi (Nat.not_lt_zero _)⟩
    · obtain ⟨rfl, rfl⟩ := only i B hB
      exact RH.cell 0 _ h0
    · obtain ⟨B, a1, a2, a3⟩ := hi
      obtain ⟨rfl, rfl⟩ := only i B a1
      cases a2
    · obtain ⟨rfl, rfl⟩ := only i B hB
      exact unders_raws _ _ hr
    · obtain ⟨a1, a2, a3⟩ := RH.glob p hp
      have : p ∈ [(0, 0)] := hp
      rw [List.mem_singleton] at this
      subst this
      exact ⟨a1, a2, Nat.zero_lt_one⟩
  refine Calls.mono (hm ρ w R0 rfl) fun e w' ⟨ρ1, k1, k2, RH1, F1, k5⟩ => ?_
  have hb : Below w.heap.size w w' := ⟨F1.os, F1.tape, F1.output, F1.size, fun k hk => F1.blk k hk fun i _ h2 => by
    obtain ⟨B, a1, a2, a3⟩ := h2
    obtain ⟨rfl, rfl⟩ := only i B a1
    cases a2⟩
  exact ⟨ρ, rfl, by rw [k2]; rfl, below_rel RH hb.block, below_fr hl hb, rfl⟩
theorem calls_atG {lim : Nat} {f : FuncId} {args : List V} {H H' : Heap} {x : Value} (hm : Meets cfxg lim f args H (.raw x) H') (ls : List E2.Loc) (w : World) (hlen : ls.length = H.length)
    (hg : (ls.getD 0 (E2.Loc.at 0)).n = 0 ∧ (ls.getD 0 (E2.Loc.at 0)).pre = []) (hpos : 0 < H.length) (hro : RowsAt ls H w) (hu : unders H.length args = true) :
    Calls Tryd.prog f (concs ⟨fun i => ls.getD i (E2.Loc.at 0), fun _ => undef⟩ args).toArray w fun e w' => e = .returned x ∧ Below w.heap.size w w' := by
  have R : RelH cfxg ⟨fun i => ls.getD i (E2.Loc.at 0), fun _ => undef⟩ H w := by
    refine ⟨fun i B hB => ?_, fun i j hi hj he => ?_, fun i B hB => ?_, fun p hp => ?_, Nat.zero_le _, fun i hi => absurd hi (Nat.not_lt_zero _)⟩
    · obtain ⟨cs, T, rfl, _, hk⟩ := hro i B hB
      exact hk _
    · obtain ⟨B, a1, a2, a3⟩ := hi
      obtain ⟨cs, T, rfl, _⟩ := hro i B a1
      cases a2
    · obtain ⟨cs, T, rfl, ha, _⟩ := hro i B hB
      exact unders_raws _ _ ha
    · have : p ∈ [(0, 0)] := hp
      rw [List.mem_singleton] at this
      subst this
      exact ⟨hg.1, hg.2, hpos⟩
  refine Calls.mono (hm _ w R hu) fun e w' ⟨ρ', _, he, _, F, _⟩ => ?_
  refine ⟨he, F.os, F.tape, F.output, F.size, fun k hk => F.blk k hk fun i _ h2 => ?_⟩
  obtain ⟨B, a1, a2, a3⟩ := h2
  obtain ⟨cs, T, rfl, _⟩ := hro i B a1
  cases a2
def codesL : List Value := [.int .i64 12, .int .i64 0, .int .i64 0, .bool true, .bool true, .bool false, .int .i64 12, .int .i64 7, .int .i64 10, .bool true, .bool false, .bool false, .int .i64 6, .int .i64 0, .int .i64 0, .bool true, .bool true, .bool false, .int .i64 12, .int .i64 0, .int .i64 0, .bool false, .bool false, .bool true]
theorem codes_at {W : World} (h : laidMetH Tryd.prog Rows.topInWayRow.laid W) : ∃ T, ∀ ρ, CellsOk ρ (E2.Loc.at 0) W (codesL.map .raw) T .ro := by
  rw [MakeChecks.laidMetH_plain _ _ _ (by kernel_rfl)] at h
  obtain ⟨ps, ⟨g0, t0, cs0, f0, p0, q0, hg0, ht0, hv0, hd0, _⟩, _⟩ := h
  have gT : (Tryd.prog.globals[0]?).map (·.type) = some 170 := by kernel_rfl
  obtain rfl := Option.some.inj ((by kernel_rfl : Tryd.prog.globalNamed _ = some 0).symm.trans hg0)
  obtain rfl := Option.some.inj (gT.symm.trans ht0)
  have e := K.tab_cells (P := Tryd.prog) 9 f0 _ codesL cs0.toList _ (by kernel_rfl) hd0
  simp only [World.var?, hg0, Option.bind_some] at hv0
  split at hv0
  · rename_i cs T fr hb
    cases hv0
    refine ⟨T, fun ρ => ⟨fun hn => (by cases hn), fun _ => ⟨fr, ?_, fun hq => absurd rfl hq⟩, fun sz hq => (by cases hq)⟩⟩
    rw [concs_raw, ← e]
    show W.heap[0]? = some (.cells ([] ++ cs0.toList ++ []).toArray T fr)
    simpa using hb
  · cases hv0
end Go.Proofs.YtgjbdlahjbppoaaDoor
end
section
namespace Go.Proofs.YtgjbdlahjbppoaaDoor
open Go Go.RowKit Go.Proofs.YtgjbdlahjbppoaaDoor.E2
theorem gr_Step : Ret cfx 9 [.raw (.agg #[.int .i64 450, .int .i64 2946]), .raw (.agg #[.int .i64 0, .int .i64 0, .int .i64 28800, .int .i64 0, .int .i64 0, .int .i64 0])] (.raw (.tuple #[.agg #[.int .i64 1, .int .i64 0, .int .i64 28800, .int .i64 0, .int .i64 0, .int .i64 0], .int .i64 0])) := by
  have h := tpStep 450 2946 0 0 28800 0 0 0
  refine Eq.mp (congrArg (Ret cfx 9 _) ?_) h
  kernel_rfl
theorem gr_Ball : Ret cfx 42 [.raw (.agg #[.int .i64 450, .int .i64 2946])] (.raw (.int .i64 0)) := by
  have h := tpBall 450 2946
  refine Eq.mp (congrArg (Ret cfx 42 _) ?_) h
  kernel_rfl
theorem gr_Bnc : Ret cfx 33 [.raw (.agg #[.int .i64 0, .int .i64 0])] (.raw (.int .i64 0)) := by
  have h := tpBnc 0 0
  refine Eq.mp (congrArg (Ret cfx 33 _) ?_) h
  kernel_rfl
theorem gr_Divide : Ret cfx 21 [.raw (.int .i64 7), .raw (.int .i64 2)] (.raw (.tuple #[.agg #[.int .i64 4, .int .i64 (-1)], .int .i64 0])) := by
  have h := tpDivide (n := 7) (d := 2) (by decide) (by decide) (by decide) (by decide)
  refine Eq.mp (congrArg (Ret cfx 21 _) ?_) h
  kernel_rfl
end Go.Proofs.YtgjbdlahjbppoaaDoor
end
section
namespace Go.Proofs.YtgjbdlahjbppoaaDoor.E2
open Go Go.RowKit
section
variable {F : Fence} {n : Nat} {P : Program} {Q Q' : Exit → Act → World → Prop}
theorem upon_exits (hq : ∀ x a w, x ≠ .normal → Q' x a w → Q x a w) {o : Oper} {a : Act} {w : World} {K : Act → World → Prop} (h : o.wpIn F n P a w K Q') : o.wpIn F n P a w K Q := by
  unfold Oper.wpIn at *
  refine ⟨h.1, ?_⟩
  have h := h.2
  generalize (o.semAt F.round a.eval).run P w = r at *
  cases r with
  | ok x w' =>
    cases x <;> simp only [Oper.uponIn] at h ⊢ <;>
      first
        | exact h
        | exact ⟨h.1, CallsIn.mono h.2 (fun e w'' he => by
            cases e with
            | returned v => exact he
            | panicked ch => exact hq _ _ _ (by simp) he
            | outgrown => exact ⟨he.choose, he.choose_spec.choose, hq _ _ _ (by simp) he.choose_spec.choose_spec⟩)⟩
        | exact ⟨h.1, RoundIn.mono h.2 (fun e w'' he => by
            cases e with
            | returned v => exact he
            | panicked ch => exact hq _ _ _ (by simp) he
            | outgrown => exact ⟨he.choose, he.choose_spec.choose, hq _ _ _ (by simp) he.choose_spec.choose_spec⟩)⟩
  | halt x w' => cases x <;> simp only [Oper.uponIn] at h ⊢ <;> first | exact h | exact hq _ _ _ (by simp) h
def thenOp (F : Fence) (n : Nat) (P : Program) (o : Oper) (Q : Exit → Act → World → Prop) : Exit → Act → World → Prop
  | .normal, a, w => o.wpIn F n P a w (fun a w => Q .normal a w) Q
  | x, a, w => Q x a w
theorem thenOp_exits {o : Oper} : ∀ x a w, x ≠ .normal → thenOp F n P o Q x a w → Q x a w := fun x a w hx h => by
  cases x <;> first | exact absurd rfl hx | exact h
theorem mem_ready {ops : Array Oper} {listed : Array Bool} {i : Nat} {o : Oper} (ho : ops[i]? = some o) (hl : listed[i]? = some false) (ha : ∀ e ∈ o.after, Region.binds .any e = true → listed[e.on]? = some true) : i ∈ Region.ready .any ops listed := by
  unfold Region.ready
  rw [List.mem_filter, List.mem_range]
  have hlt : i < ops.size := (Array.getElem?_eq_some_iff.1 ho).1
  refine ⟨hlt, ?_⟩
  rw [ho, Array.getD_eq_getD_getElem?, hl]
  simp only [Option.getD_some, Bool.not_false, Bool.true_and, Option.map_some]
  rw [Array.all_eq_true_iff_forall_mem]
  intro e he
  cases hb : Region.binds .any e with
  | false => rfl
  | true => rw [Array.getD_eq_getD_getElem?, ha e he hb]; rfl
variable {ops : Array Oper} {o : Oper}
theorem any_push (hg : ∀ (i : Nat) (oi : Oper), ops[i]? = some oi → oi.guard = none) (hog : o.guard = none) (back : ∀ (i : Nat) (o : Oper), ops[i]? = some o → ∀ e ∈ o.after, Region.binds .any e = true → e.on < i)
    (hw : ∀ i, i < ops.size → waitsB (ops.push o) ops.size i = true) (hlast : ∀ e ∈ o.after, Region.binds .any e = true → e.on < ops.size) :
    ∀ (fuel : Nat) (listed : Array Bool) (a : Act) (w : World), listed.size = ops.size → Closed (ops.push o) (up (listed.push false)) → wpAnyIn F n P .any ops (thenOp F n P o Q) fuel listed a w → wpAnyIn F n P .any (ops.push o) Q (fuel + 1) (listed.push false) a w := by
  have oLast : (ops.push o)[ops.size]? = some o := by simp
  have oOld : ∀ i, i < ops.size → (ops.push o)[i]? = ops[i]? := fun i hi => by rw [Array.getElem?_push]; simp [show ¬ i = ops.size by omega]
  have sz8 : (ops.push o).size = ops.size + 1 := by simp
  -- when all others have come up
  have fin : ∀ (fuel : Nat) (listed : Array Bool) (a : Act) (w : World), listed.size = ops.size → (∀ i, i < ops.size → listed[i]? = some true) → thenOp F n P o Q .normal a w → wpAnyIn F n P .any (ops.push o) Q (fuel + 1) (listed.push false) a w := fun fuel listed a w hsz hall hq => by
    have l7 : (listed.push false)[ops.size]? = some false := by rw [← hsz]; simp
    have lo : ∀ i, i < ops.size → (listed.push false)[i]? = some true := fun i hi => by rw [Array.getElem?_push]; simp [show ¬ i = listed.size by omega, hall i hi]
    have hin : ops.size ∈ Region.ready .any (ops.push o) (listed.push false) := mem_ready oLast l7 fun e he hb => lo _ (hlast e he hb)
    refine ⟨fun e => (by rw [e] at hin; cases hin), fun i hi => ?_⟩
    obtain ⟨oi, ho, hf, _⟩ := ready_spec (by simp [hsz]) hi
    have hi8 : i < ops.size + 1 := by rw [← sz8]; exact (Array.getElem?_eq_some_iff.1 ho).1
    have e7 : i = ops.size := by
      rcases Nat.lt_or_ge i ops.size with k | k
      · rw [lo i k] at hf; cases hf
      · omega
    subst e7
    unfold wpOpIn
    rw [oLast]
    simp only [Region.wanted, hog, if_true]
    refine Oper.wpIn_mono (fun a1 w1 h1 => ?_) hq
    have none : Region.ready .any (ops.push o) ((listed.push false).setIfInBounds ops.size true) = [] := by
      rcases hrd : Region.ready .any (ops.push o) ((listed.push false).setIfInBounds ops.size true) with _ | ⟨j, l⟩
      · rfl
      · exfalso
        obtain ⟨oj, hoj, hfj, _⟩ := ready_spec (ops := ops.push o) (listed := (listed.push false).setIfInBounds ops.size true) (by rw [Array.size_setIfInBounds, Array.size_push, Array.size_push, hsz]) (i := j) (by rw [hrd]; exact List.mem_cons_self)
        have hj8 : j < ops.size + 1 := by rw [← sz8]; exact (Array.getElem?_eq_some_iff.1 hoj).1
        rw [Array.getElem?_setIfInBounds] at hfj
        rcases Nat.lt_or_ge j ops.size with k | k
        · rw [if_neg (by omega), lo j k] at hfj; cases hfj
        · rw [if_pos (by omega)] at hfj
          split at hfj <;> cases hfj
    cases fuel with
    | zero => exact ⟨none, h1⟩
    | succ fuel => exact ⟨fun _ => h1, fun i hi => by rw [none] at hi; cases hi⟩
  intro fuel
  induction fuel with
  | zero =>
    intro listed a w hsz hC h
    exact fin 0 listed a w hsz (all_of_ready back hsz h.1) h.2
  | succ fuel ih =>
    intro listed a w hsz hC h
    rcases hrd : Region.ready .any ops listed with _ | ⟨j, l⟩
    · exact fin (fuel + 1) listed a w hsz (all_of_ready back hsz hrd) (h.1 hrd)
    have hj : j ∈ Region.ready .any ops listed := by rw [hrd]; exact List.mem_cons_self
    have low : ∀ i, i < ops.size → (listed.push false)[i]? = listed[i]? := fun i hi => by rw [Array.getElem?_push]; simp [show ¬ i = listed.size by omega]
    obtain ⟨oj, hoj, hfj, haj⟩ := ready_spec hsz hj
    have hjl : j < ops.size := (Array.getElem?_eq_some_iff.1 hoj).1
    have hj8 : j ∈ Region.ready .any (ops.push o) (listed.push false) := mem_ready (by rw [oOld j hjl]; exact hoj) (by rw [low j hjl]; exact hfj) fun e he hb => by
      have := back j oj hoj e he hb
      rw [low _ (by omega)]
      exact haj e he hb
    refine ⟨fun e => (by rw [e] at hj8; cases hj8), fun i hi => ?_⟩
    obtain ⟨oi, ho, hf, haf⟩ := ready_spec (by simp [hsz]) hi
    have hi8 : i < ops.size + 1 := by rw [← sz8]; exact (Array.getElem?_eq_some_iff.1 ho).1
    have W : ∀ k, waitsB (ops.push o) i k = true → up (listed.push false) k = true := fun k hk => by
      unfold waitsB waitsN at hk
      rw [ho] at hk
      obtain ⟨e, he, hb⟩ := List.any_eq_true.1 hk
      rw [Bool.and_eq_true, Bool.or_eq_true, beq_iff_eq] at hb
      have h1 : up (listed.push false) e.on = true := by simp [up, haf e (Array.mem_toList_iff.1 he) hb.1]
      rcases hb.2 with h2 | h2
      · rw [← h2]; exact h1
      · exact hC e.on k h1 (waitsN_mono 11 (ops.push o) e.on k h2)
    have hil : i < ops.size := by
      rcases Nat.lt_or_ge i ops.size with k | k
      · exact k
      · exfalso
        have e7 : i = ops.size := by omega
        subst e7
        have := W j (hw j hjl)
        unfold up at this
        rw [low j hjl, hfj] at this
        simp at this
    have hoi : ops[i]? = some oi := by rw [← oOld i hil]; exact ho
    have hir : i ∈ Region.ready .any ops listed := mem_ready hoi (by rw [← low i hil]; exact hf) fun e he hb => by
      have := back i oi hoi e he hb
      rw [← low _ (by omega)]
      exact haf e he hb
    have step := h.2 i hir
    unfold wpOpIn at step ⊢
    rw [hoi] at step
    rw [ho]
    simp only [Region.wanted, hg i oi hoi, if_true] at step ⊢
    have es : (listed.push false).setIfInBounds i true = (listed.setIfInBounds i true).push false := by
      apply Array.ext_getElem?
      intro k
      rw [Array.getElem?_setIfInBounds, Array.getElem?_push, Array.getElem?_push, Array.getElem?_setIfInBounds]
      simp only [Array.size_push, Array.size_setIfInBounds]
      by_cases hk : i = k
      · subst hk
        simp [show i < listed.size + 1 by omega, show ¬ i = listed.size by omega, show i < listed.size by omega]
      · simp [hk]
    have hf8 : (listed.push false)[i]? = some false := hf
    refine Oper.wpIn_mono (fun a1 w1 h1 => ?_) (upon_exits thenOp_exits step)
    rw [es]
    refine ih (listed.setIfInBounds i true) a1 w1 (by simp [hsz]) ?_ h1
    rw [← es]
    have hS' : up ((listed.push false).setIfInBounds i true) = fun k => up (listed.push false) k || k == i := funext (up_set hf8)
    intro x y hx hxy
    rw [hS'] at hx ⊢
    simp only [Bool.or_eq_true, beq_iff_eq] at hx ⊢
    rcases hx with hx | rfl
    · exact .inl (hC x y hx hxy)
    · exact .inl (W y hxy)
end
section
variable {c : Cfg} {cf : CF} {lim : Nat} {ops : Array Oper} {h : Heap} {t : List V}
theorem evDrawn_any {r : Option Nat} (hcf : CallOk c cf) (hfn : ∀ f, c.fns f = true → Callable c.P f) (hL : c.L ≤ lim) (hlh : lim ≤ h.length) {Q : Exit → Act → World → Prop}
    {ans : List Ans} {q : ROut} {ρ : Ren} {a : Act} {w : World} (he : evDrawn c cf lim ops t h ans = some q) (hc : ∀ p ∈ q.cons, p) (RH : RelH c ρ h w) (RT : RelT ρ h.length t a)
    (hQ : ∀ ρ' a' w', ρ'.unk = ρ.unk → a'.defers = a.defers → RelT ρ' q.h.length q.t a' → RelH c ρ' q.h w' → Fr lim h.length ρ h w ρ' q.h w' → Q .normal a' w') :
    (∀ (i : Nat) (o : Oper), ops[i]? = some o → ∀ e ∈ o.after, Region.binds .any e = true → e.on < i) ∧ wpAnyIn (FW r) 0 c.P .any ops Q ops.size (Array.replicate ops.size false) a w.drew := by
  unfold evDrawn at he
  split at he
  · rename_i olds0 ans0
    split at he
    · rename_i hs
      split at he
      · rename_i d hd
        simp only [Option.some.injEq] at he
        subst he
        have H := told_of hd hc hs
        have RHd : RelH c ρ h w.drew := ⟨fun i B hi => (RH.cell i B hi).move (RH.sco i B hi) (fun _ _ => rfl) (fun _ => rfl), RH.inj, RH.sco, RH.glob, RH.big, RH.base⟩
        refine ⟨H.back, wpAny_told (ρ0 := ρ) (a0 := a) hcf hfn H hL hlh RHd RT (fun ρ' a' w' I => ?_) _ _ _ _ ρ (by simp) ?_ ?_ (by simp [left])⟩
        · refine hQ ρ' a' w' I.unk I.defers (by rw [effs_len]; exact I.T) I.H ?_
          have F := I.F
          exact ⟨F.os, F.tape, F.output, F.size, F.blk, F.ren, F.len, F.fresh, F.dead⟩
        · intro i j hi _
          simp only [up, Array.getElem?_replicate] at hi
          split at hi <;> simp at hi
        · have no : ∀ k, up (Array.replicate ops.size false) k = false := fun k => by
            simp only [up, Array.getElem?_replicate]
            split <;> simp
          have gen : ∀ (l : List DIt) (j : Nat) (A : Heap) (ρ0 : Ren), RelH c ρ0 A w.drew → RelH c ρ0 (effs (up (Array.replicate ops.size false)) j l A) w.drew ∧ ∀ (e : Nat) (B : Blk), (effs (up (Array.replicate ops.size false)) j l A)[e]? = some (some B) → A[e]? = some (some B) := by
            intro l
            induction l with
            | nil => intro j A ρ0 hA; exact ⟨hA, fun _ _ h => h⟩
            | cons it l ih =>
              intro j A ρ0 hA
              have e0 : effs (up (Array.replicate ops.size false)) j (it :: l) A = effs (up (Array.replicate ops.size false)) (j + 1) l (effNo it A) := by
                show effs _ (j + 1) l (if up (Array.replicate ops.size false) j = true then effOne it A else effNo it A) = _
                rw [no]; rfl
              rw [e0]
              have back : ∀ {e : Nat} {B : Blk}, (effNo it A)[e]? = some (some B) → A[e]? = some (some B) := fun {e B} hB => by
                rcases Nat.lt_or_ge e A.length with hlt | hge
                · rwa [show effNo it A = A ++ _ from rfl, List.getElem?_append_left hlt] at hB
                · rw [show effNo it A = A ++ _ from rfl, List.getElem?_append_right hge, List.getElem?_map] at hB
                  cases hx : it.nw[e - A.length]? with
                  | none => rw [hx] at hB; cases hB
                  | some x => rw [hx] at hB; cases hB
              have hA' : RelH c ρ0 (effNo it A) w.drew := by
                refine ⟨fun e B hB => hA.cell e B (back hB), fun x y hx hy e => ?_, fun e B hB => Blk.under_mono (by rw [effNo_len]; omega) _ (hA.sco e B (back hB)), fun p hp => ?_, by rw [effNo_len]; have := hA.big; omega, fun e he => ?_⟩
                · obtain ⟨B, x1, x2⟩ := hx
                  obtain ⟨C, y1, y2⟩ := hy
                  exact hA.inj x y ⟨B, back x1, x2⟩ ⟨C, back y1, y2⟩ e
                · obtain ⟨g1, g2, g3⟩ := hA.glob p hp
                  exact ⟨g1, g2, by rw [effNo_len]; omega⟩
                · have := hA.big
                  rw [show effNo it A = A ++ _ from rfl, List.getElem?_append_left (by omega)]
                  exact hA.base e he
              obtain ⟨i1, i2⟩ := ih (j + 1) (effNo it A) ρ0 hA'
              exact ⟨i1, fun e B hB => back (i2 e B hB)⟩
          obtain ⟨G1, G2⟩ := gen d.its 0 h ρ RHd
          have hsl : slotsAt ops (up (Array.replicate ops.size false)) 0 d.its t = t := by
            apply List.ext_getElem?
            intro s
            exact slotsAt_un d.its 0 t fun k _ hk => by rw [no] at hk; cases hk
          refine ⟨rfl, rfl, ?_, G1, ?_⟩
          · rw [hsl]
            exact ⟨RT.tmps, fun x hx => V.slotOk_mono (grown_ge _ _) x (RT.sco x hx)⟩
          · refine ⟨rfl, rfl, rfl, Nat.le_refl _, fun _ _ _ => rfl, fun _ _ => rfl, by rw [effs_len]; exact grown_ge _ _, fun e h1 h2 => ?_, fun e _ h2 => ?_⟩
            · obtain ⟨B, x1, x2⟩ := h2
              have := lt_len (G2 e B x1)
              omega
            · obtain ⟨B, x1, x2⟩ := h2
              exact ⟨B, G2 e B x1, x2⟩
      · cases he
    · cases he
  · cases he
def opsOf : Code → Array Oper
  | .region _ ops _ => ops
  | _ => #[]
theorem body_push (hmx : c.P.follows .mixedOrders = true) (hfn : ∀ f, c.fns f = true → Callable c.P f) (hL : c.L ≤ lim) {rnd : Option Nat} {fi k n n0 id : Nat} {o : Oper} {T T' : List V} {H H' : Heap} {ans : List Ans} {cons : List Prop} {code : Code}
    (hcode : code = .region id (ops.push o) true)
    (hck : (ops.all (fun x => x.guard.isNone) && o.guard.isNone && ((List.range ops.size).all fun i => waitsB (ops.push o) ops.size i) && (o.after.all fun e => !Region.binds .any e || decide (e.on < ops.size))) = true)
    (he : (evCode c ⟨evFunc c n, evYlds c (evFunc c n) 3⟩ lim rnd fi (.seq (.region 0 ops true) (.region 0 #[o] false)) k T H ans).map (fun r => (r.e, r.t, r.h, r.cons)) = some (.normal, T', H', cons)) (hp : Paid cons)
    (hln : lim ≤ n0) (hnl : n0 ≤ H.length) : Runs c lim n0 rnd code T H .normal T' H' := by
  subst hcode
  simp only [Bool.and_eq_true] at hck
  obtain ⟨⟨⟨c1, c2⟩, c3⟩, c4⟩ := hck
  have hcf := evYlds_sound hmx hfn (evFunc_sound hmx hfn n) 3
  rw [Option.map_eq_some_iff] at he
  obtain ⟨r, h1, h2⟩ := he
  simp only [Prod.mk.injEq] at h2
  obtain ⟨e1, rfl, rfl, rfl⟩ := h2
  have hall := hp.all
  simp only [evCode] at h1
  cases hd : evDrawn c ⟨evFunc c n, evYlds c (evFunc c n) 3⟩ lim ops T H ans with
  | none => rw [hd] at h1; simp at h1
  | some q1 =>
    rw [hd] at h1
    simp only at h1
    cases ho : evOps c ⟨evFunc c n, evYlds c (evFunc c n) 3⟩ lim #[o] #[o].toList q1.t q1.h q1.ans with
    | none => rw [ho] at h1; simp at h1
    | some q2 =>
      rw [ho] at h1
      simp only [Option.some.injEq] at h1
      subst h1
      simp only at hall
      refine Runs.fewer (n := H.length) ?_ hnl hln
      intro ρ a w RT RH
      have hlh : lim ≤ H.length := Nat.le_trans hln hnl
      have A := evDrawn_any (r := rndOf ρ rnd) (Q := thenOp (FW (rndOf ρ rnd)) 0 c.P o (fun x a' w' => x = Ex.normal.to ∧ ∃ ρ' ms, a'.defers = ms ++ a.defers ∧ Marks w w' ms ∧ RelT ρ' q2.h.length q2.t a' ∧ RelH c ρ' q2.h w' ∧ Fr lim H.length ρ H w ρ' q2.h w')) hcf hfn hL hlh hd (fun p hq => hall p (List.mem_append_left _ hq)) RH RT (fun ρ1 a1 w1 u1 d1 T1 H1 F1 => ?_)
      · refine wpIn_region_any hmx ?_
        have B := any_push (o := o) (fun i oi hi => by
            have := Array.all_eq_true_iff_forall_mem.1 c1 oi (Array.mem_of_getElem? hi)
            simpa using this) (by simpa using c2) A.1 (fun i hi => List.all_eq_true.1 c3 i (List.mem_range.2 hi)) (fun e he hb => by
            have := Array.all_eq_true_iff_forall_mem.1 c4 e he
            simpa [hb] using this) ops.size (Array.replicate ops.size false) a w.drew (by simp) (fun i j hi _ => by
            exfalso
            have : (Array.replicate ops.size false).push false = Array.replicate (ops.size + 1) false := by simp [Array.replicate_succ]
            rw [this] at hi
            simp only [up, Array.getElem?_replicate] at hi
            split at hi <;> simp at hi) A.2
        have e2 : (ops.push o).size = ops.size + 1 := by simp
        rw [e2, Array.replicate_succ]
        exact B
      · show o.wpIn _ _ _ a1 w1 _ _
        have S := evOps_sound (r := rndOf ρ rnd) hcf hfn hL (ops := #[o]) (Q := fun x a' w' => x = Ex.normal.to ∧ ∃ ρ' ms, a'.defers = ms ++ a.defers ∧ Marks w w' ms ∧ RelT ρ' q2.h.length q2.t a' ∧ RelH c ρ' q2.h w' ∧ Fr lim H.length ρ H w ρ' q2.h w') #[o].toList q1.t q1.h q1.ans q2 ρ1 a1 w1 ho (fun p hq => hall p (List.mem_append_right _ hq)) (Nat.le_trans hlh F1.len) H1 T1 (fun ρ2 a2 w2 u2 d2 T2 H2 F2 => ⟨rfl, ρ2, [], by rw [List.nil_append, d2, d1], Marks.nil, T2, H2, F1.trans (F2.fewer F1.len (Nat.le_trans hlh (Nat.le_refl _)))⟩)
        unfold wpListIn at S
        simp only [Region.wanted, show o.guard = none by simpa using c2, if_true] at S
        exact S
theorem Runs.block {n id : Nat} {rnd : Option Nat} {x : Code} {t t' : List V} {h h' : Heap} (hr : Runs c lim n rnd x t h .normal t' h') : Runs c lim n rnd (.block id x) t h .normal t' h' := fun ρ a w RT RH =>
  wpIn_block (wpIn_mono (hr ρ a w RT RH) fun y a' w' ⟨hy, k⟩ => by subst hy; exact ⟨rfl, k⟩)
def sl : Code → Code
  | .seq x _ => x
  | _ => .skip
def sr : Code → Code
  | .seq _ y => y
  | _ => .skip
def bi : Code → Nat
  | .block i _ => i
  | _ => 0
def bl : Code → Code
  | .block _ x => x
  | _ => .skip
end
end Go.Proofs.YtgjbdlahjbppoaaDoor.E2
end
