/-
  Part of a claim: the reckoner and contracts.
-/
import Derived.Test.YtmelbcmfahcffaaLTd
set_option linter.unusedVariables false
set_option linter.unusedSimpArgs false
set_option maxRecDepth 100000
section
namespace Go.Proofs.Ytmelbcmfahcffaa
open Go Go.RowKit Go.Proofs.Ytmelbcmfahcffaa.E2
variable (nm : ByteArray) (gs cs : List Int) (n k : Nat) (T U : Nat) (w g y a b r p q : Int)
theorem rk_many0 (h1 : n = 0)  : Meets cfx 0 45 [lwA nm w g y n a b r p q k] [bkG gs T, bkI cs U] (iV 6) [bkG gs T, bkI cs U] := by
  refine Meets.post (meets_ev cfx_mixed cfx_call zz zb (n := 40) (ans := [Ans.go, zT, zT, zT, zT, zT]) (v := (iV 6)) (h' := [bkG gs T, bkI cs U, bkW nm w g y n a b r p q k]) (cons := [(decide ((n : Int) < 1) = true), (true = true), (true = true), (true = true), (true = true)]) zk
    ⟨zdo, rfl, rfl, rfl, rfl, trivial⟩) zk zt0
theorem rk_many1 (h1 : 1 ≤ n) (h2 : 12 < n) (hb : n ≤ 1000000000)  : Meets cfx 0 45 [lwA nm w g y n a b r p q k] [bkG gs T, bkI cs U] (iV 6) [bkG gs T, bkI cs U] := by
  refine Meets.post (meets_ev cfx_mixed cfx_call zz zb (n := 40) (ans := [Ans.go, zF, zF, zT, zT, zT]) (v := (iV 6)) (h' := [bkG gs T, bkI cs U, bkW nm w g y n a b r p q k]) (cons := [(decide ((n : Int) < 1) = false), (false = false), (decide (12 < (n : Int)) = true), (true = true), (true = true)]) zk
    ⟨zdo, rfl, zdo, rfl, rfl, trivial⟩) zk zt0
theorem rk_many2 (h1 : 1 ≤ n) (h2 : n ≤ 12) (h3 : 256 < k) (hb : k ≤ 1000000000)  : Meets cfx 0 45 [lwA nm w g y n a b r p q k] [bkG gs T, bkI cs U] (iV 6) [bkG gs T, bkI cs U] := by
  refine Meets.post (meets_ev cfx_mixed cfx_call zz zb (n := 40) (ans := [Ans.go, zF, zF, zF, zF, zT]) (v := (iV 6)) (h' := [bkG gs T, bkI cs U, bkW nm w g y n a b r p q k]) (cons := [(decide ((n : Int) < 1) = false), (false = false), (decide (12 < (n : Int)) = false), (false = false), (decide (256 < (k : Int)) = true)]) zk
    ⟨zdo, rfl, zdo, rfl, zdo, trivial⟩) zk zt0
theorem rk_name (nm : ByteArray) (gs cs : List Int) (n k : Nat) (T U : Nat) (w g y a b r p q : Int) (hn1 : ¬ (n : Int) < 1) (hn2 : ¬ 12 < n) (hk : ¬ 256 < k) (hnm : Ret cfx 87 [.raw (.string nm)] (.raw (.bool false)))  : Meets cfx 0 45 [lwA nm w g y n a b r p q k] [bkG gs T, bkI cs U] (iV 2) [bkG gs T, bkI cs U] := by
  refine Meets.post (meets_ev cfx_mixed cfx_call zz zb (n := 40) (ans := [Ans.go, zF, zF, zF, zF, zF, Ans.ret (V.raw (.bool false)), zT, zT, zT, zT, zT, zT, zT]) (v := (iV 2)) (h' := [bkG gs T, bkI cs U, bkW nm w g y n a b r p q k]) (cons := [(decide ((n : Int) < 1) = false), (false = false), (decide (12 < (n : Int)) = false), (false = false), (decide (256 < (k : Int)) = false), (Ret cfx 87 [V.raw (Value.string nm)] (V.raw (.bool false))), (true = true), (true = true), (true = true), (true = true), (true = true), (true = true), (true = true)]) zk
    ⟨zdo, rfl, zdo, rfl, zdo, (hnm), rfl, rfl, rfl, rfl, rfl, rfl, rfl, trivial⟩) zk zt0
theorem rk_side1 (nm : ByteArray) (gs cs : List Int) (n k : Nat) (T U : Nat) (w g y a b r p q : Int) (hn1 : ¬ (n : Int) < 1) (hn2 : ¬ 12 < n) (hk : ¬ 256 < k) (hnm : Ret cfx 87 [.raw (.string nm)] (.raw (.bool true)))  (hs1 : M.btw w 65536 4194304 = false)  : Meets cfx 0 45 [lwA nm w g y n a b r p q k] [bkG gs T, bkI cs U] (iV 2) [bkG gs T, bkI cs U] := by
  refine Meets.post (meets_ev cfx_mixed cfx_call zz zb (n := 40) (ans := [Ans.go, zF, zF, zF, zF, zF, Ans.ret (V.raw (.bool true)), zF, Ans.ret (V.raw (.bool (M.btw w 65536 4194304))), zF, zT, zT, zT, zT, zT]) (v := (iV 2)) (h' := [bkG gs T, bkI cs U, bkW nm w g y n a b r p q k]) (cons := [(decide ((n : Int) < 1) = false), (false = false), (decide (12 < (n : Int)) = false), (false = false), (decide (256 < (k : Int)) = false), (Ret cfx 87 [V.raw (Value.string nm)] (V.raw (.bool true))), (false = false), (Ret cfx 70 [iV w, iV 65536, iV 4194304] (V.raw (.bool (M.btw w 65536 4194304)))), (false = false), ((!M.btw w 65536 4194304) = true), (true = true), (true = true), (true = true), (true = true)]) zk
    ⟨zdo, rfl, zdo, rfl, zdo, (hnm), rfl, (lnWithin _ _ _), rfl, zdf, rfl, rfl, rfl, rfl, trivial⟩) zk zt0
theorem rk_side2 (nm : ByteArray) (gs cs : List Int) (n k : Nat) (T U : Nat) (w g y a b r p q : Int) (hn1 : ¬ (n : Int) < 1) (hn2 : ¬ 12 < n) (hk : ¬ 256 < k) (hnm : Ret cfx 87 [.raw (.string nm)] (.raw (.bool true))) (hs1 : M.btw w 65536 4194304 = true) (hs2 : M.btw g 65536 4194304 = false)  : Meets cfx 0 45 [lwA nm w g y n a b r p q k] [bkG gs T, bkI cs U] (iV 2) [bkG gs T, bkI cs U] := by
  refine Meets.post (meets_ev cfx_mixed cfx_call zz zb (n := 40) (ans := [Ans.go, zF, zF, zF, zF, zF, Ans.ret (V.raw (.bool true)), zF, Ans.ret (V.raw (.bool (M.btw w 65536 4194304))), zF, zF, Ans.ret (V.raw (.bool (M.btw g 65536 4194304))), zF, zT, zT, zT]) (v := (iV 2)) (h' := [bkG gs T, bkI cs U, bkW nm w g y n a b r p q k]) (cons := [(decide ((n : Int) < 1) = false), (false = false), (decide (12 < (n : Int)) = false), (false = false), (decide (256 < (k : Int)) = false), (Ret cfx 87 [V.raw (Value.string nm)] (V.raw (.bool true))), (false = false), (Ret cfx 70 [iV w, iV 65536, iV 4194304] (V.raw (.bool (M.btw w 65536 4194304)))), (false = false), ((!M.btw w 65536 4194304) = false), (Ret cfx 70 [iV g, iV 65536, iV 4194304] (V.raw (.bool (M.btw g 65536 4194304)))), (false = false), ((!M.btw g 65536 4194304) = true), (true = true), (true = true)]) zk
    ⟨zdo, rfl, zdo, rfl, zdo, (hnm), rfl, (lnWithin _ _ _), rfl, zdf, (lnWithin _ _ _), rfl, zdf, rfl, rfl, trivial⟩) zk zt0
abbrev zq204 (y : Int) (g : Int) (w : Int) : Prop := Ret cfx 70 [iV y, iV 0, iV ((if g < w then g else w).tdiv 4)] (V.raw (.bool (M.btw y 0 ((if g < w then g else w).tdiv 4))))
theorem rk_side3 (nm : ByteArray) (gs cs : List Int) (n k : Nat) (T U : Nat) (w g y a b r p q : Int) (hn1 : ¬ (n : Int) < 1) (hn2 : ¬ 12 < n) (hk : ¬ 256 < k) (hnm : Ret cfx 87 [.raw (.string nm)] (.raw (.bool true))) (hs1 : M.btw w 65536 4194304 = true) (hs2 : M.btw g 65536 4194304 = true) (hs3 : M.btw y 0 ((if g < w then g else w).tdiv 4) = false)  : Meets cfx 0 45 [lwA nm w g y n a b r p q k] [bkG gs T, bkI cs U] (iV 2) [bkG gs T, bkI cs U] := by
  have kq := M.quarter_bd hs1 hs2
  refine Meets.post (meets_ev cfx_mixed cfx_call zz zb (n := 40) (ans := [Ans.go, zF, zF, zF, zF, zF, Ans.ret (V.raw (.bool true)), zF, Ans.ret (V.raw (.bool (M.btw w 65536 4194304))), zF, zF, Ans.ret (V.raw (.bool (M.btw g 65536 4194304))), zF, zF, Ans.ret (V.raw (.bool (M.btw y 0 ((if g < w then g else w).tdiv 4)))), zF, zT]) (v := (iV 2)) (h' := [bkG gs T, bkI cs U, bkW nm w g y n a b r p q k]) (cons := [(decide ((n : Int) < 1) = false), (false = false), (decide (12 < (n : Int)) = false), (false = false), (decide (256 < (k : Int)) = false), (Ret cfx 87 [V.raw (Value.string nm)] (V.raw (.bool true))), (false = false), (Ret cfx 70 [iV w, iV 65536, iV 4194304] (V.raw (.bool (M.btw w 65536 4194304)))), (false = false), ((!M.btw w 65536 4194304) = false), (Ret cfx 70 [iV g, iV 65536, iV 4194304] (V.raw (.bool (M.btw g 65536 4194304)))), (false = false), ((!M.btw g 65536 4194304) = false), ((4 : Int) ≠ (0 : Int)), (inR IntKind.i64 ((if g < w then g else w).tdiv 4)), ((zq204 y g w)), (false = false), ((!M.btw y 0 ((if g < w then g else w).tdiv 4)) = true)]) zk
    ⟨zdo, rfl, zdo, rfl, zdo, (hnm), rfl, (lnWithin _ _ _), rfl, zdf, (lnWithin _ _ _), rfl, zdf, zds, inR_i64 zo zo, (lnWithin _ _ _), rfl, zdf, trivial⟩) zk zt0
abbrev zq19 (nm : ByteArray) (w : Int) (g : Int) (y : Int) (n : Nat) (a : Int) (b : Int) (r : Int) (p : Int) (q : Int) (k : Nat) (i : Nat) : List V := (catV [lwA nm w g y n a b r p q k, .ptr 2 0, iV 2, iV (i : Int)] (anyR 4 220 []))
abbrev zq232 (nm : ByteArray) (w : Int) (g : Int) (y : Int) (n : Nat) (a : Int) (b : Int) (r : Int) (p : Int) (q : Int) (k : Nat) : List V := (catV [lwA nm w g y n a b r p q k, .ptr 2 0, iV 0, iV 0, uV, uV, uV, uV, .ptr 2 4, .slo 0 n, iV (n : Int), V.raw (.bool (decide ((n : Int) < 1))), V.lit false, .ptr 2 4, .slo 0 n, iV (n : Int), V.raw (.bool (decide (12 < (n : Int)))), V.raw (.bool (decide (12 < (n : Int)))), V.lit false, .ptr 2 10, .slo 1 k, iV (k : Int), V.raw (.bool (decide (256 < (k : Int)))), V.raw (.bool (decide (256 < (k : Int)))), .ptr 2 0, V.raw (Value.string nm), V.raw (.bool true), V.raw (.bool false), V.lit false, .ptr 2 1, iV w, V.raw (.bool (M.btw w 65536 4194304)), V.raw (.bool !M.btw w 65536 4194304), V.raw (.bool !M.btw w 65536 4194304), V.lit false, .ptr 2 2, iV g, V.raw (.bool (M.btw g 65536 4194304)), V.raw (.bool !M.btw g 65536 4194304), V.raw (.bool !M.btw g 65536 4194304), V.lit false, .ptr 2 3, iV y, .ptr 2 1, iV w, .ptr 2 2, iV g, iV (if g < w then g else w), iV ((if g < w then g else w).tdiv 4), V.raw (.bool (M.btw y 0 ((if g < w then g else w).tdiv 4))), V.raw (.bool !M.btw y 0 ((if g < w then g else w).tdiv 4)), V.raw (.bool !M.btw y 0 ((if g < w then g else w).tdiv 4))] (repU 172 []))
abbrev zq25 (nm : ByteArray) (w : Int) (g : Int) (y : Int) (n : Nat) (a : Int) (b : Int) (r : Int) (p : Int) (q : Int) (k : Nat) : List V := (zq232 nm w g y n a b r p q k)
theorem rk_hoop (nm : ByteArray) (gs cs : List Int) (n k : Nat) (T U : Nat) (w g y a b r p q : Int) (hn1 : ¬ (n : Int) < 1) (hn2 : ¬ 12 < n) (hk : ¬ 256 < k) (hz : n * 5 ≤ gs.length) (hnm : Ret cfx 87 [.raw (.string nm)] (.raw (.bool true))) (hs1 : M.btw w 65536 4194304 = true) (hs2 : M.btw g 65536 4194304 = true) (hs3 : M.btw y 0 ((if g < w then g else w).tdiv 4) = true) (i : Nat) (hR0 : Runs cfx 0 3 none (.loop (loopOf cfx.P 45 0)) (rck_T nm gs cs n k T U w g y a b r p q 0) (rck_H nm gs cs n k T U w g y a b r p q 0) (.ret) (rck_T1 nm gs cs n k T U w g y a b r p q i) (rck_H1 nm gs cs n k T U w g y a b r p q i))  : Meets cfx 0 45 [lwA nm w g y n a b r p q k] [bkG gs T, bkI cs U] (iV 2) [bkG gs T, bkI cs U] := by
  have kq := M.quarter_bd hs1 hs2
  refine Meets.post (meets_ev cfx_mixed cfx_call zz zb (n := 40) (ans := [Ans.go, zF, zF, zF, zF, zF, Ans.ret (V.raw (.bool true)), zF, Ans.ret (V.raw (.bool (M.btw w 65536 4194304))), zF, zF, Ans.ret (V.raw (.bool (M.btw g 65536 4194304))), zF, zF, Ans.ret (V.raw (.bool (M.btw y 0 ((if g < w then g else w).tdiv 4)))), zF, zF, Ans.loop Ex.ret (zq19 nm w g y n a b r p q k i) [bkG gs T, bkI cs U, bkW nm w g y n a b r p q k]]) (v := (iV 2)) (h' := [bkG gs T, bkI cs U, bkW nm w g y n a b r p q k]) (cons := [(decide ((n : Int) < 1) = false), (false = false), (decide (12 < (n : Int)) = false), (false = false), (decide (256 < (k : Int)) = false), (Ret cfx 87 [V.raw (Value.string nm)] (V.raw (.bool true))), (false = false), (Ret cfx 70 [iV w, iV 65536, iV 4194304] (V.raw (.bool (M.btw w 65536 4194304)))), (false = false), ((!M.btw w 65536 4194304) = false), (Ret cfx 70 [iV g, iV 65536, iV 4194304] (V.raw (.bool (M.btw g 65536 4194304)))), (false = false), ((!M.btw g 65536 4194304) = false), ((4 : Int) ≠ (0 : Int)), (inR IntKind.i64 ((if g < w then g else w).tdiv 4)), ((zq204 y g w)), (false = false), ((!M.btw y 0 ((if g < w then g else w).tdiv 4)) = false), (Runs cfx 0 3 none (.loop (loopOf cfx.P 45 0)) (zq25 nm w g y n a b r p q k) [bkG gs T, bkI cs U, bkW nm w g y n a b r p q k] (Ex.ret) (zq19 nm w g y n a b r p q k i) [bkG gs T, bkI cs U, bkW nm w g y n a b r p q k])]) zk
    ⟨zdo, rfl, zdo, rfl, zdo, (hnm), rfl, (lnWithin _ _ _), rfl, zdf, (lnWithin _ _ _), rfl, zdf, zds, inR_i64 zo zo, (lnWithin _ _ _), rfl, zdf, (by
      refine Runs.pre (fun b e => by cases e) (fun RT RH => ?_) (hR0)
      exact reshape2 (lim := 0) 3 (t := (zq25 nm w g y n a b r p q k)) (h := [bkG gs T, bkI cs U, bkW nm w g y n a b r p q k]) cfx_G rfl [] zk zk zdr RT RH), trivial⟩) zk zt0
abbrev zq231 (nm : ByteArray) (w : Int) (g : Int) (y : Int) (n : Nat) (a : Int) (b : Int) (r : Int) (p : Int) (q : Int) (k : Nat) : List V := (catV [lwA nm w g y n a b r p q k, .ptr 2 0, iV 0, iV (n : Int)] (anyR 4 220 []))
abbrev zq3 (nm : ByteArray) (w : Int) (g : Int) (y : Int) (n : Nat) (a : Int) (b : Int) (r : Int) (p : Int) (q : Int) (k : Nat) (gs : List Int) (T : Nat) (cs : List Int) (U : Nat) : Prop := Runs cfx 0 3 none (.loop (loopOf cfx.P 45 0)) (zq232 nm w g y n a b r p q k) [bkG gs T, bkI cs U, bkW nm w g y n a b r p q k] (Ex.exit 0) (zq231 nm w g y n a b r p q k) [bkG gs T, bkI cs U, bkW nm w g y n a b r p q k]
abbrev zq18 (nm : ByteArray) (w : Int) (g : Int) (y : Int) (n : Nat) (a : Int) (b : Int) (r : Int) (p : Int) (q : Int) (k : Nat) : List V := (zq231 nm w g y n a b r p q k)
theorem rk_peg1 (nm : ByteArray) (gs cs : List Int) (n k : Nat) (T U : Nat) (w g y a b r p q : Int) (hn1 : ¬ (n : Int) < 1) (hn2 : ¬ 12 < n) (hk : ¬ 256 < k) (hz : n * 5 ≤ gs.length) (hnm : Ret cfx 87 [.raw (.string nm)] (.raw (.bool true))) (hs1 : M.btw w 65536 4194304 = true) (hs2 : M.btw g 65536 4194304 = true) (hs3 : M.btw y 0 ((if g < w then g else w).tdiv 4) = true) (hR0 : (zq160 nm gs cs n k T U w g y a b r p q))  (hr : M.btw r 1 8192 = false)  : Meets cfx 0 45 [lwA nm w g y n a b r p q k] [bkG gs T, bkI cs U] (iV 2) [bkG gs T, bkI cs U] := by
  have kq := M.quarter_bd hs1 hs2
  refine Meets.post (meets_ev cfx_mixed cfx_call zz zb (n := 40) (ans := [Ans.go, zF, zF, zF, zF, zF, Ans.ret (V.raw (.bool true)), zF, Ans.ret (V.raw (.bool (M.btw w 65536 4194304))), zF, zF, Ans.ret (V.raw (.bool (M.btw g 65536 4194304))), zF, zF, Ans.ret (V.raw (.bool (M.btw y 0 ((if g < w then g else w).tdiv 4)))), zF, zF, Ans.loop (Ex.exit 0) (zq18 nm w g y n a b r p q k) [bkG gs T, bkI cs U, bkW nm w g y n a b r p q k], Ans.ret (V.raw (.bool (M.btw r 1 8192))), zT, zT, zT, zT, zT, zT, zT, zT, zT, zT, zT, zT, zT, zT, zT]) (v := (iV 2)) (h' := [bkG gs T, bkI cs U, bkW nm w g y n a b r p q k]) (cons := [(decide ((n : Int) < 1) = false), (false = false), (decide (12 < (n : Int)) = false), (false = false), (decide (256 < (k : Int)) = false), (Ret cfx 87 [V.raw (Value.string nm)] (V.raw (.bool true))), (false = false), (Ret cfx 70 [iV w, iV 65536, iV 4194304] (V.raw (.bool (M.btw w 65536 4194304)))), (false = false), ((!M.btw w 65536 4194304) = false), (Ret cfx 70 [iV g, iV 65536, iV 4194304] (V.raw (.bool (M.btw g 65536 4194304)))), (false = false), ((!M.btw g 65536 4194304) = false), ((4 : Int) ≠ (0 : Int)), (inR IntKind.i64 ((if g < w then g else w).tdiv 4)), ((zq204 y g w)), (false = false), ((!M.btw y 0 ((if g < w then g else w).tdiv 4)) = false), ((zq3 nm w g y n a b r p q k gs T cs U)), (Ret cfx 70 [iV r, iV 1, iV 8192] (V.raw (.bool (M.btw r 1 8192)))), ((!M.btw r 1 8192) = true), (true = true), (true = true), (true = true), (true = true), (true = true), (true = true), (true = true), (true = true), (true = true), (true = true), (true = true), (true = true), (true = true), (true = true)]) zk
    ⟨zdo, rfl, zdo, rfl, zdo, (hnm), rfl, (lnWithin _ _ _), rfl, zdf, (lnWithin _ _ _), rfl, zdf, zds, inR_i64 zo zo, (lnWithin _ _ _), rfl, zdf, (by
      refine Runs.pre (fun b e => by cases e) (fun RT RH => ?_) (hR0)
      exact reshape2 (lim := 0) 3 (t := (zq25 nm w g y n a b r p q k)) (h := [bkG gs T, bkI cs U, bkW nm w g y n a b r p q k]) cfx_G rfl [] zk zk zdr RT RH), (lnWithin _ _ _), zdf, rfl, rfl, rfl, rfl, rfl, rfl, rfl, rfl, rfl, rfl, rfl, rfl, rfl, rfl, trivial⟩) zk zt0
theorem rk_peg2 (nm : ByteArray) (gs cs : List Int) (n k : Nat) (T U : Nat) (w g y a b r p q : Int) (hn1 : ¬ (n : Int) < 1) (hn2 : ¬ 12 < n) (hk : ¬ 256 < k) (hz : n * 5 ≤ gs.length) (hnm : Ret cfx 87 [.raw (.string nm)] (.raw (.bool true))) (hs1 : M.btw w 65536 4194304 = true) (hs2 : M.btw g 65536 4194304 = true) (hs3 : M.btw y 0 ((if g < w then g else w).tdiv 4) = true) (hR0 : (zq160 nm gs cs n k T U w g y a b r p q)) (hr : M.btw r 1 8192 = true) (ha : M.btw a 0 4194304 = false)  : Meets cfx 0 45 [lwA nm w g y n a b r p q k] [bkG gs T, bkI cs U] (iV 2) [bkG gs T, bkI cs U] := by
  have kq := M.quarter_bd hs1 hs2
  refine Meets.post (meets_ev cfx_mixed cfx_call zz zb (n := 40) (ans := [Ans.go, zF, zF, zF, zF, zF, Ans.ret (V.raw (.bool true)), zF, Ans.ret (V.raw (.bool (M.btw w 65536 4194304))), zF, zF, Ans.ret (V.raw (.bool (M.btw g 65536 4194304))), zF, zF, Ans.ret (V.raw (.bool (M.btw y 0 ((if g < w then g else w).tdiv 4)))), zF, zF, Ans.loop (Ex.exit 0) (zq18 nm w g y n a b r p q k) [bkG gs T, bkI cs U, bkW nm w g y n a b r p q k], Ans.ret (V.raw (.bool (M.btw r 1 8192))), zF, Ans.ret (V.raw (.bool (M.btw a 0 4194304))), zF, zT, zT, zT, zT, zT, zT, zT, zT, zT, zT, zT, zT, zT]) (v := (iV 2)) (h' := [bkG gs T, bkI cs U, bkW nm w g y n a b r p q k]) (cons := [(decide ((n : Int) < 1) = false), (false = false), (decide (12 < (n : Int)) = false), (false = false), (decide (256 < (k : Int)) = false), (Ret cfx 87 [V.raw (Value.string nm)] (V.raw (.bool true))), (false = false), (Ret cfx 70 [iV w, iV 65536, iV 4194304] (V.raw (.bool (M.btw w 65536 4194304)))), (false = false), ((!M.btw w 65536 4194304) = false), (Ret cfx 70 [iV g, iV 65536, iV 4194304] (V.raw (.bool (M.btw g 65536 4194304)))), (false = false), ((!M.btw g 65536 4194304) = false), ((4 : Int) ≠ (0 : Int)), (inR IntKind.i64 ((if g < w then g else w).tdiv 4)), ((zq204 y g w)), (false = false), ((!M.btw y 0 ((if g < w then g else w).tdiv 4)) = false), ((zq3 nm w g y n a b r p q k gs T cs U)), (Ret cfx 70 [iV r, iV 1, iV 8192] (V.raw (.bool (M.btw r 1 8192)))), ((!M.btw r 1 8192) = false), (Ret cfx 70 [iV a, iV 0, iV 4194304] (V.raw (.bool (M.btw a 0 4194304)))), (false = false), ((!M.btw a 0 4194304) = true), (true = true), (true = true), (true = true), (true = true), (true = true), (true = true), (true = true), (true = true), (true = true), (true = true), (true = true), (true = true)]) zk
    ⟨zdo, rfl, zdo, rfl, zdo, (hnm), rfl, (lnWithin _ _ _), rfl, zdf, (lnWithin _ _ _), rfl, zdf, zds, inR_i64 zo zo, (lnWithin _ _ _), rfl, zdf, (by
      refine Runs.pre (fun b e => by cases e) (fun RT RH => ?_) (hR0)
      exact reshape2 (lim := 0) 3 (t := (zq25 nm w g y n a b r p q k)) (h := [bkG gs T, bkI cs U, bkW nm w g y n a b r p q k]) cfx_G rfl [] zk zk zdr RT RH), (lnWithin _ _ _), zdf, (lnWithin _ _ _), rfl, zdf, rfl, rfl, rfl, rfl, rfl, rfl, rfl, rfl, rfl, rfl, rfl, rfl, trivial⟩) zk zt0
theorem rk_peg3 (nm : ByteArray) (gs cs : List Int) (n k : Nat) (T U : Nat) (w g y a b r p q : Int) (hn1 : ¬ (n : Int) < 1) (hn2 : ¬ 12 < n) (hk : ¬ 256 < k) (hz : n * 5 ≤ gs.length) (hnm : Ret cfx 87 [.raw (.string nm)] (.raw (.bool true))) (hs1 : M.btw w 65536 4194304 = true) (hs2 : M.btw g 65536 4194304 = true) (hs3 : M.btw y 0 ((if g < w then g else w).tdiv 4) = true) (hR0 : (zq160 nm gs cs n k T U w g y a b r p q)) (hr : M.btw r 1 8192 = true) (ha : M.btw a 0 4194304 = true) (hb : M.btw b 0 4194304 = false)  : Meets cfx 0 45 [lwA nm w g y n a b r p q k] [bkG gs T, bkI cs U] (iV 2) [bkG gs T, bkI cs U] := by
  have kq := M.quarter_bd hs1 hs2
  refine Meets.post (meets_ev cfx_mixed cfx_call zz zb (n := 40) (ans := [Ans.go, zF, zF, zF, zF, zF, Ans.ret (V.raw (.bool true)), zF, Ans.ret (V.raw (.bool (M.btw w 65536 4194304))), zF, zF, Ans.ret (V.raw (.bool (M.btw g 65536 4194304))), zF, zF, Ans.ret (V.raw (.bool (M.btw y 0 ((if g < w then g else w).tdiv 4)))), zF, zF, Ans.loop (Ex.exit 0) (zq18 nm w g y n a b r p q k) [bkG gs T, bkI cs U, bkW nm w g y n a b r p q k], Ans.ret (V.raw (.bool (M.btw r 1 8192))), zF, Ans.ret (V.raw (.bool (M.btw a 0 4194304))), zF, zF, Ans.ret (V.raw (.bool (M.btw b 0 4194304))), zF, zT, zT, zT, zT, zT, zT, zT, zT, zT, zT, zT]) (v := (iV 2)) (h' := [bkG gs T, bkI cs U, bkW nm w g y n a b r p q k]) (cons := [(decide ((n : Int) < 1) = false), (false = false), (decide (12 < (n : Int)) = false), (false = false), (decide (256 < (k : Int)) = false), (Ret cfx 87 [V.raw (Value.string nm)] (V.raw (.bool true))), (false = false), (Ret cfx 70 [iV w, iV 65536, iV 4194304] (V.raw (.bool (M.btw w 65536 4194304)))), (false = false), ((!M.btw w 65536 4194304) = false), (Ret cfx 70 [iV g, iV 65536, iV 4194304] (V.raw (.bool (M.btw g 65536 4194304)))), (false = false), ((!M.btw g 65536 4194304) = false), ((4 : Int) ≠ (0 : Int)), (inR IntKind.i64 ((if g < w then g else w).tdiv 4)), ((zq204 y g w)), (false = false), ((!M.btw y 0 ((if g < w then g else w).tdiv 4)) = false), ((zq3 nm w g y n a b r p q k gs T cs U)), (Ret cfx 70 [iV r, iV 1, iV 8192] (V.raw (.bool (M.btw r 1 8192)))), ((!M.btw r 1 8192) = false), (Ret cfx 70 [iV a, iV 0, iV 4194304] (V.raw (.bool (M.btw a 0 4194304)))), (false = false), ((!M.btw a 0 4194304) = false), (Ret cfx 70 [iV b, iV 0, iV 4194304] (V.raw (.bool (M.btw b 0 4194304)))), (false = false), ((!M.btw b 0 4194304) = true), (true = true), (true = true), (true = true), (true = true), (true = true), (true = true), (true = true), (true = true), (true = true), (true = true)]) zk
    ⟨zdo, rfl, zdo, rfl, zdo, (hnm), rfl, (lnWithin _ _ _), rfl, zdf, (lnWithin _ _ _), rfl, zdf, zds, inR_i64 zo zo, (lnWithin _ _ _), rfl, zdf, (by
      refine Runs.pre (fun b e => by cases e) (fun RT RH => ?_) (hR0)
      exact reshape2 (lim := 0) 3 (t := (zq25 nm w g y n a b r p q k)) (h := [bkG gs T, bkI cs U, bkW nm w g y n a b r p q k]) cfx_G rfl [] zk zk zdr RT RH), (lnWithin _ _ _), zdf, (lnWithin _ _ _), rfl, zdf, (lnWithin _ _ _), rfl, zdf, rfl, rfl, rfl, rfl, rfl, rfl, rfl, rfl, rfl, rfl, trivial⟩) zk zt0
theorem rk_grid1 (nm : ByteArray) (gs cs : List Int) (n k : Nat) (T U : Nat) (w g y a b r p q : Int) (hn1 : ¬ (n : Int) < 1) (hn2 : ¬ 12 < n) (hk : ¬ 256 < k) (hz : n * 5 ≤ gs.length) (hnm : Ret cfx 87 [.raw (.string nm)] (.raw (.bool true))) (hs1 : M.btw w 65536 4194304 = true) (hs2 : M.btw g 65536 4194304 = true) (hs3 : M.btw y 0 ((if g < w then g else w).tdiv 4) = true) (hR0 : (zq160 nm gs cs n k T U w g y a b r p q)) (hr : M.btw r 1 8192 = true) (ha : M.btw a 0 4194304 = true) (hb : M.btw b 0 4194304 = true)  (hp1 : p < 1)  : Meets cfx 0 45 [lwA nm w g y n a b r p q k] [bkG gs T, bkI cs U] (iV 2) [bkG gs T, bkI cs U] := by
  have kq := M.quarter_bd hs1 hs2
  refine Meets.post (meets_ev cfx_mixed cfx_call zz zb (n := 40) (ans := [Ans.go, zF, zF, zF, zF, zF, Ans.ret (V.raw (.bool true)), zF, Ans.ret (V.raw (.bool (M.btw w 65536 4194304))), zF, zF, Ans.ret (V.raw (.bool (M.btw g 65536 4194304))), zF, zF, Ans.ret (V.raw (.bool (M.btw y 0 ((if g < w then g else w).tdiv 4)))), zF, zF, Ans.loop (Ex.exit 0) (zq18 nm w g y n a b r p q k) [bkG gs T, bkI cs U, bkW nm w g y n a b r p q k], Ans.ret (V.raw (.bool (M.btw r 1 8192))), zF, Ans.ret (V.raw (.bool (M.btw a 0 4194304))), zF, zF, Ans.ret (V.raw (.bool (M.btw b 0 4194304))), zF, zF, zF, zT, zT, zT, zT, zT, zT, zT, zT, zT]) (v := (iV 2)) (h' := [bkG gs T, bkI cs U, bkW nm w g y n a b r p q k]) (cons := [(decide ((n : Int) < 1) = false), (false = false), (decide (12 < (n : Int)) = false), (false = false), (decide (256 < (k : Int)) = false), (Ret cfx 87 [V.raw (Value.string nm)] (V.raw (.bool true))), (false = false), (Ret cfx 70 [iV w, iV 65536, iV 4194304] (V.raw (.bool (M.btw w 65536 4194304)))), (false = false), ((!M.btw w 65536 4194304) = false), (Ret cfx 70 [iV g, iV 65536, iV 4194304] (V.raw (.bool (M.btw g 65536 4194304)))), (false = false), ((!M.btw g 65536 4194304) = false), ((4 : Int) ≠ (0 : Int)), (inR IntKind.i64 ((if g < w then g else w).tdiv 4)), ((zq204 y g w)), (false = false), ((!M.btw y 0 ((if g < w then g else w).tdiv 4)) = false), ((zq3 nm w g y n a b r p q k gs T cs U)), (Ret cfx 70 [iV r, iV 1, iV 8192] (V.raw (.bool (M.btw r 1 8192)))), ((!M.btw r 1 8192) = false), (Ret cfx 70 [iV a, iV 0, iV 4194304] (V.raw (.bool (M.btw a 0 4194304)))), (false = false), ((!M.btw a 0 4194304) = false), (Ret cfx 70 [iV b, iV 0, iV 4194304] (V.raw (.bool (M.btw b 0 4194304)))), (false = false), ((!M.btw b 0 4194304) = false), (false = false), (decide (p < 1) = true), (true = true), (true = true), (true = true), (true = true), (true = true), (true = true), (true = true), (true = true)]) zk
    ⟨zdo, rfl, zdo, rfl, zdo, (hnm), rfl, (lnWithin _ _ _), rfl, zdf, (lnWithin _ _ _), rfl, zdf, zds, inR_i64 zo zo, (lnWithin _ _ _), rfl, zdf, (by
      refine Runs.pre (fun b e => by cases e) (fun RT RH => ?_) (hR0)
      exact reshape2 (lim := 0) 3 (t := (zq25 nm w g y n a b r p q k)) (h := [bkG gs T, bkI cs U, bkW nm w g y n a b r p q k]) cfx_G rfl [] zk zk zdr RT RH), (lnWithin _ _ _), zdf, (lnWithin _ _ _), rfl, zdf, (lnWithin _ _ _), rfl, zdf, rfl, zdo, rfl, rfl, rfl, rfl, rfl, rfl, rfl, rfl, trivial⟩) zk zt0
theorem rk_grid2 (nm : ByteArray) (gs cs : List Int) (n k : Nat) (T U : Nat) (w g y a b r p q : Int) (hn1 : ¬ (n : Int) < 1) (hn2 : ¬ 12 < n) (hk : ¬ 256 < k) (hz : n * 5 ≤ gs.length) (hnm : Ret cfx 87 [.raw (.string nm)] (.raw (.bool true))) (hs1 : M.btw w 65536 4194304 = true) (hs2 : M.btw g 65536 4194304 = true) (hs3 : M.btw y 0 ((if g < w then g else w).tdiv 4) = true) (hR0 : (zq160 nm gs cs n k T U w g y a b r p q)) (hr : M.btw r 1 8192 = true) (ha : M.btw a 0 4194304 = true) (hb : M.btw b 0 4194304 = true) (hp1 : ¬ p < 1) (hp2 : 16 < p)  : Meets cfx 0 45 [lwA nm w g y n a b r p q k] [bkG gs T, bkI cs U] (iV 2) [bkG gs T, bkI cs U] := by
  have kq := M.quarter_bd hs1 hs2
  refine Meets.post (meets_ev cfx_mixed cfx_call zz zb (n := 40) (ans := [Ans.go, zF, zF, zF, zF, zF, Ans.ret (V.raw (.bool true)), zF, Ans.ret (V.raw (.bool (M.btw w 65536 4194304))), zF, zF, Ans.ret (V.raw (.bool (M.btw g 65536 4194304))), zF, zF, Ans.ret (V.raw (.bool (M.btw y 0 ((if g < w then g else w).tdiv 4)))), zF, zF, Ans.loop (Ex.exit 0) (zq18 nm w g y n a b r p q k) [bkG gs T, bkI cs U, bkW nm w g y n a b r p q k], Ans.ret (V.raw (.bool (M.btw r 1 8192))), zF, Ans.ret (V.raw (.bool (M.btw a 0 4194304))), zF, zF, Ans.ret (V.raw (.bool (M.btw b 0 4194304))), zF, zF, zF, zF, zF, zT, zT, zT, zT, zT, zT, zT]) (v := (iV 2)) (h' := [bkG gs T, bkI cs U, bkW nm w g y n a b r p q k]) (cons := [(decide ((n : Int) < 1) = false), (false = false), (decide (12 < (n : Int)) = false), (false = false), (decide (256 < (k : Int)) = false), (Ret cfx 87 [V.raw (Value.string nm)] (V.raw (.bool true))), (false = false), (Ret cfx 70 [iV w, iV 65536, iV 4194304] (V.raw (.bool (M.btw w 65536 4194304)))), (false = false), ((!M.btw w 65536 4194304) = false), (Ret cfx 70 [iV g, iV 65536, iV 4194304] (V.raw (.bool (M.btw g 65536 4194304)))), (false = false), ((!M.btw g 65536 4194304) = false), ((4 : Int) ≠ (0 : Int)), (inR IntKind.i64 ((if g < w then g else w).tdiv 4)), ((zq204 y g w)), (false = false), ((!M.btw y 0 ((if g < w then g else w).tdiv 4)) = false), ((zq3 nm w g y n a b r p q k gs T cs U)), (Ret cfx 70 [iV r, iV 1, iV 8192] (V.raw (.bool (M.btw r 1 8192)))), ((!M.btw r 1 8192) = false), (Ret cfx 70 [iV a, iV 0, iV 4194304] (V.raw (.bool (M.btw a 0 4194304)))), (false = false), ((!M.btw a 0 4194304) = false), (Ret cfx 70 [iV b, iV 0, iV 4194304] (V.raw (.bool (M.btw b 0 4194304)))), (false = false), ((!M.btw b 0 4194304) = false), (false = false), (decide (p < 1) = false), (false = false), (decide (16 < p) = true), (true = true), (true = true), (true = true), (true = true), (true = true), (true = true)]) zk
    ⟨zdo, rfl, zdo, rfl, zdo, (hnm), rfl, (lnWithin _ _ _), rfl, zdf, (lnWithin _ _ _), rfl, zdf, zds, inR_i64 zo zo, (lnWithin _ _ _), rfl, zdf, (by
      refine Runs.pre (fun b e => by cases e) (fun RT RH => ?_) (hR0)
      exact reshape2 (lim := 0) 3 (t := (zq25 nm w g y n a b r p q k)) (h := [bkG gs T, bkI cs U, bkW nm w g y n a b r p q k]) cfx_G rfl [] zk zk zdr RT RH), (lnWithin _ _ _), zdf, (lnWithin _ _ _), rfl, zdf, (lnWithin _ _ _), rfl, zdf, rfl, zdo, rfl, zdo, rfl, rfl, rfl, rfl, rfl, rfl, trivial⟩) zk zt0
theorem rk_grid3 (nm : ByteArray) (gs cs : List Int) (n k : Nat) (T U : Nat) (w g y a b r p q : Int) (hn1 : ¬ (n : Int) < 1) (hn2 : ¬ 12 < n) (hk : ¬ 256 < k) (hz : n * 5 ≤ gs.length) (hnm : Ret cfx 87 [.raw (.string nm)] (.raw (.bool true))) (hs1 : M.btw w 65536 4194304 = true) (hs2 : M.btw g 65536 4194304 = true) (hs3 : M.btw y 0 ((if g < w then g else w).tdiv 4) = true) (hR0 : (zq160 nm gs cs n k T U w g y a b r p q)) (hr : M.btw r 1 8192 = true) (ha : M.btw a 0 4194304 = true) (hb : M.btw b 0 4194304 = true) (hp1 : ¬ p < 1) (hp2 : ¬ 16 < p) (hq1 : q < 1)  : Meets cfx 0 45 [lwA nm w g y n a b r p q k] [bkG gs T, bkI cs U] (iV 2) [bkG gs T, bkI cs U] := by
  have kq := M.quarter_bd hs1 hs2
  refine Meets.post (meets_ev cfx_mixed cfx_call zz zb (n := 40) (ans := [Ans.go, zF, zF, zF, zF, zF, Ans.ret (V.raw (.bool true)), zF, Ans.ret (V.raw (.bool (M.btw w 65536 4194304))), zF, zF, Ans.ret (V.raw (.bool (M.btw g 65536 4194304))), zF, zF, Ans.ret (V.raw (.bool (M.btw y 0 ((if g < w then g else w).tdiv 4)))), zF, zF, Ans.loop (Ex.exit 0) (zq18 nm w g y n a b r p q k) [bkG gs T, bkI cs U, bkW nm w g y n a b r p q k], Ans.ret (V.raw (.bool (M.btw r 1 8192))), zF, Ans.ret (V.raw (.bool (M.btw a 0 4194304))), zF, zF, Ans.ret (V.raw (.bool (M.btw b 0 4194304))), zF, zF, zF, zF, zF, zF, zF, zT, zT, zT, zT, zT]) (v := (iV 2)) (h' := [bkG gs T, bkI cs U, bkW nm w g y n a b r p q k]) (cons := [(decide ((n : Int) < 1) = false), (false = false), (decide (12 < (n : Int)) = false), (false = false), (decide (256 < (k : Int)) = false), (Ret cfx 87 [V.raw (Value.string nm)] (V.raw (.bool true))), (false = false), (Ret cfx 70 [iV w, iV 65536, iV 4194304] (V.raw (.bool (M.btw w 65536 4194304)))), (false = false), ((!M.btw w 65536 4194304) = false), (Ret cfx 70 [iV g, iV 65536, iV 4194304] (V.raw (.bool (M.btw g 65536 4194304)))), (false = false), ((!M.btw g 65536 4194304) = false), ((4 : Int) ≠ (0 : Int)), (inR IntKind.i64 ((if g < w then g else w).tdiv 4)), ((zq204 y g w)), (false = false), ((!M.btw y 0 ((if g < w then g else w).tdiv 4)) = false), ((zq3 nm w g y n a b r p q k gs T cs U)), (Ret cfx 70 [iV r, iV 1, iV 8192] (V.raw (.bool (M.btw r 1 8192)))), ((!M.btw r 1 8192) = false), (Ret cfx 70 [iV a, iV 0, iV 4194304] (V.raw (.bool (M.btw a 0 4194304)))), (false = false), ((!M.btw a 0 4194304) = false), (Ret cfx 70 [iV b, iV 0, iV 4194304] (V.raw (.bool (M.btw b 0 4194304)))), (false = false), ((!M.btw b 0 4194304) = false), (false = false), (decide (p < 1) = false), (false = false), (decide (16 < p) = false), (false = false), (decide (q < 1) = true), (true = true), (true = true), (true = true), (true = true)]) zk
    ⟨zdo, rfl, zdo, rfl, zdo, (hnm), rfl, (lnWithin _ _ _), rfl, zdf, (lnWithin _ _ _), rfl, zdf, zds, inR_i64 zo zo, (lnWithin _ _ _), rfl, zdf, (by
      refine Runs.pre (fun b e => by cases e) (fun RT RH => ?_) (hR0)
      exact reshape2 (lim := 0) 3 (t := (zq25 nm w g y n a b r p q k)) (h := [bkG gs T, bkI cs U, bkW nm w g y n a b r p q k]) cfx_G rfl [] zk zk zdr RT RH), (lnWithin _ _ _), zdf, (lnWithin _ _ _), rfl, zdf, (lnWithin _ _ _), rfl, zdf, rfl, zdo, rfl, zdo, rfl, zdo, rfl, rfl, rfl, rfl, trivial⟩) zk zt0
theorem rk_grid4 (nm : ByteArray) (gs cs : List Int) (n k : Nat) (T U : Nat) (w g y a b r p q : Int) (hn1 : ¬ (n : Int) < 1) (hn2 : ¬ 12 < n) (hk : ¬ 256 < k) (hz : n * 5 ≤ gs.length) (hnm : Ret cfx 87 [.raw (.string nm)] (.raw (.bool true))) (hs1 : M.btw w 65536 4194304 = true) (hs2 : M.btw g 65536 4194304 = true) (hs3 : M.btw y 0 ((if g < w then g else w).tdiv 4) = true) (hR0 : (zq160 nm gs cs n k T U w g y a b r p q)) (hr : M.btw r 1 8192 = true) (ha : M.btw a 0 4194304 = true) (hb : M.btw b 0 4194304 = true) (hp1 : ¬ p < 1) (hp2 : ¬ 16 < p) (hq1 : ¬ q < 1) (hq2 : 16 < q)  : Meets cfx 0 45 [lwA nm w g y n a b r p q k] [bkG gs T, bkI cs U] (iV 2) [bkG gs T, bkI cs U] := by
  have kq := M.quarter_bd hs1 hs2
  refine Meets.post (meets_ev cfx_mixed cfx_call zz zb (n := 40) (ans := [Ans.go, zF, zF, zF, zF, zF, Ans.ret (V.raw (.bool true)), zF, Ans.ret (V.raw (.bool (M.btw w 65536 4194304))), zF, zF, Ans.ret (V.raw (.bool (M.btw g 65536 4194304))), zF, zF, Ans.ret (V.raw (.bool (M.btw y 0 ((if g < w then g else w).tdiv 4)))), zF, zF, Ans.loop (Ex.exit 0) (zq18 nm w g y n a b r p q k) [bkG gs T, bkI cs U, bkW nm w g y n a b r p q k], Ans.ret (V.raw (.bool (M.btw r 1 8192))), zF, Ans.ret (V.raw (.bool (M.btw a 0 4194304))), zF, zF, Ans.ret (V.raw (.bool (M.btw b 0 4194304))), zF, zF, zF, zF, zF, zF, zF, zF, zF, zT, zT, zT]) (v := (iV 2)) (h' := [bkG gs T, bkI cs U, bkW nm w g y n a b r p q k]) (cons := [(decide ((n : Int) < 1) = false), (false = false), (decide (12 < (n : Int)) = false), (false = false), (decide (256 < (k : Int)) = false), (Ret cfx 87 [V.raw (Value.string nm)] (V.raw (.bool true))), (false = false), (Ret cfx 70 [iV w, iV 65536, iV 4194304] (V.raw (.bool (M.btw w 65536 4194304)))), (false = false), ((!M.btw w 65536 4194304) = false), (Ret cfx 70 [iV g, iV 65536, iV 4194304] (V.raw (.bool (M.btw g 65536 4194304)))), (false = false), ((!M.btw g 65536 4194304) = false), ((4 : Int) ≠ (0 : Int)), (inR IntKind.i64 ((if g < w then g else w).tdiv 4)), ((zq204 y g w)), (false = false), ((!M.btw y 0 ((if g < w then g else w).tdiv 4)) = false), ((zq3 nm w g y n a b r p q k gs T cs U)), (Ret cfx 70 [iV r, iV 1, iV 8192] (V.raw (.bool (M.btw r 1 8192)))), ((!M.btw r 1 8192) = false), (Ret cfx 70 [iV a, iV 0, iV 4194304] (V.raw (.bool (M.btw a 0 4194304)))), (false = false), ((!M.btw a 0 4194304) = false), (Ret cfx 70 [iV b, iV 0, iV 4194304] (V.raw (.bool (M.btw b 0 4194304)))), (false = false), ((!M.btw b 0 4194304) = false), (false = false), (decide (p < 1) = false), (false = false), (decide (16 < p) = false), (false = false), (decide (q < 1) = false), (false = false), (decide (16 < q) = true), (true = true), (true = true)]) zk
    ⟨zdo, rfl, zdo, rfl, zdo, (hnm), rfl, (lnWithin _ _ _), rfl, zdf, (lnWithin _ _ _), rfl, zdf, zds, inR_i64 zo zo, (lnWithin _ _ _), rfl, zdf, (by
      refine Runs.pre (fun b e => by cases e) (fun RT RH => ?_) (hR0)
      exact reshape2 (lim := 0) 3 (t := (zq25 nm w g y n a b r p q k)) (h := [bkG gs T, bkI cs U, bkW nm w g y n a b r p q k]) cfx_G rfl [] zk zk zdr RT RH), (lnWithin _ _ _), zdf, (lnWithin _ _ _), rfl, zdf, (lnWithin _ _ _), rfl, zdf, rfl, zdo, rfl, zdo, rfl, zdo, rfl, zdo, rfl, rfl, trivial⟩) zk zt0
theorem rk_grid5 (nm : ByteArray) (gs cs : List Int) (n k : Nat) (T U : Nat) (w g y a b r p q : Int) (hn1 : ¬ (n : Int) < 1) (hn2 : ¬ 12 < n) (hk : ¬ 256 < k) (hz : n * 5 ≤ gs.length) (hnm : Ret cfx 87 [.raw (.string nm)] (.raw (.bool true))) (hs1 : M.btw w 65536 4194304 = true) (hs2 : M.btw g 65536 4194304 = true) (hs3 : M.btw y 0 ((if g < w then g else w).tdiv 4) = true) (hR0 : (zq160 nm gs cs n k T U w g y a b r p q)) (hr : M.btw r 1 8192 = true) (ha : M.btw a 0 4194304 = true) (hb : M.btw b 0 4194304 = true) (hp1 : ¬ p < 1) (hp2 : ¬ 16 < p) (hq1 : ¬ q < 1) (hq2 : ¬ 16 < q) (hpq : 0 ≤ p * q ∧ p * q ≤ 256) (hkk : ¬ (k : Int) = p * q)  : Meets cfx 0 45 [lwA nm w g y n a b r p q k] [bkG gs T, bkI cs U] (iV 2) [bkG gs T, bkI cs U] := by
  have kq := M.quarter_bd hs1 hs2
  refine Meets.post (meets_ev cfx_mixed cfx_call zz zb (n := 40) (ans := [Ans.go, zF, zF, zF, zF, zF, Ans.ret (V.raw (.bool true)), zF, Ans.ret (V.raw (.bool (M.btw w 65536 4194304))), zF, zF, Ans.ret (V.raw (.bool (M.btw g 65536 4194304))), zF, zF, Ans.ret (V.raw (.bool (M.btw y 0 ((if g < w then g else w).tdiv 4)))), zF, zF, Ans.loop (Ex.exit 0) (zq18 nm w g y n a b r p q k) [bkG gs T, bkI cs U, bkW nm w g y n a b r p q k], Ans.ret (V.raw (.bool (M.btw r 1 8192))), zF, Ans.ret (V.raw (.bool (M.btw a 0 4194304))), zF, zF, Ans.ret (V.raw (.bool (M.btw b 0 4194304))), zF, zF, zF, zF, zF, zF, zF, zF, zF, zF, zF, zT]) (v := (iV 2)) (h' := [bkG gs T, bkI cs U, bkW nm w g y n a b r p q k]) (cons := [(decide ((n : Int) < 1) = false), (false = false), (decide (12 < (n : Int)) = false), (false = false), (decide (256 < (k : Int)) = false), (Ret cfx 87 [V.raw (Value.string nm)] (V.raw (.bool true))), (false = false), (Ret cfx 70 [iV w, iV 65536, iV 4194304] (V.raw (.bool (M.btw w 65536 4194304)))), (false = false), ((!M.btw w 65536 4194304) = false), (Ret cfx 70 [iV g, iV 65536, iV 4194304] (V.raw (.bool (M.btw g 65536 4194304)))), (false = false), ((!M.btw g 65536 4194304) = false), ((4 : Int) ≠ (0 : Int)), (inR IntKind.i64 ((if g < w then g else w).tdiv 4)), ((zq204 y g w)), (false = false), ((!M.btw y 0 ((if g < w then g else w).tdiv 4)) = false), ((zq3 nm w g y n a b r p q k gs T cs U)), (Ret cfx 70 [iV r, iV 1, iV 8192] (V.raw (.bool (M.btw r 1 8192)))), ((!M.btw r 1 8192) = false), (Ret cfx 70 [iV a, iV 0, iV 4194304] (V.raw (.bool (M.btw a 0 4194304)))), (false = false), ((!M.btw a 0 4194304) = false), (Ret cfx 70 [iV b, iV 0, iV 4194304] (V.raw (.bool (M.btw b 0 4194304)))), (false = false), ((!M.btw b 0 4194304) = false), (false = false), (decide (p < 1) = false), (false = false), (decide (16 < p) = false), (false = false), (decide (q < 1) = false), (false = false), (decide (16 < q) = false), (inR IntKind.i64 (p * q)), (false = false), ((!decide ((k : Int) = p * q)) = true)]) zk
    ⟨zdo, rfl, zdo, rfl, zdo, (hnm), rfl, (lnWithin _ _ _), rfl, zdf, (lnWithin _ _ _), rfl, zdf, zds, inR_i64 zo zo, (lnWithin _ _ _), rfl, zdf, (by
      refine Runs.pre (fun b e => by cases e) (fun RT RH => ?_) (hR0)
      exact reshape2 (lim := 0) 3 (t := (zq25 nm w g y n a b r p q k)) (h := [bkG gs T, bkI cs U, bkW nm w g y n a b r p q k]) cfx_G rfl [] zk zk zdr RT RH), (lnWithin _ _ _), zdf, (lnWithin _ _ _), rfl, zdf, (lnWithin _ _ _), rfl, zdf, rfl, zdo, rfl, zdo, rfl, zdo, rfl, zdo, inR_i64 zo zo, rfl, zdf, trivial⟩) zk zt0
abbrev zq227 (nm : ByteArray) (w : Int) (g : Int) (y : Int) (n : Nat) (a : Int) (b : Int) (r : Int) (p : Int) (q : Int) (k : Nat) : List V := (catV [lwA nm w g y n a b r p q k, .ptr 2 0, iV 0, iV (n : Int), iV 0] (anyR 5 61 (catV [.ptr 2 5, .ptr 2 7, iV r, V.raw (.bool (M.btw r 1 8192)), V.raw (.bool !M.btw r 1 8192), V.lit false, .ptr 2 5, .ptr 2 5, .ptr 2 5, iV a, V.raw (.bool (M.btw a 0 4194304)), V.raw (.bool !M.btw a 0 4194304), V.raw (.bool !M.btw a 0 4194304), V.lit false, .ptr 2 5, .ptr 2 5, .ptr 2 6, iV b, V.raw (.bool (M.btw b 0 4194304)), V.raw (.bool !M.btw b 0 4194304), V.raw (.bool !M.btw b 0 4194304), V.lit false, .ptr 2 8, iV p, V.raw (.bool (decide (p < 1))), V.raw (.bool (decide (p < 1))), V.lit false, .ptr 2 8, iV p, V.raw (.bool (decide (16 < p))), V.raw (.bool (decide (16 < p))), V.lit false, .ptr 2 9, iV q, V.raw (.bool (decide (q < 1))), V.raw (.bool (decide (q < 1))), V.lit false, .ptr 2 9, iV q, V.raw (.bool (decide (16 < q))), V.raw (.bool (decide (16 < q))), V.lit false, .ptr 2 10, .slo 1 k, iV (k : Int), .ptr 2 8, iV p, .ptr 2 9, iV q, iV (p * q), V.raw (.bool !decide ((k : Int) = p * q)), V.raw (.bool !decide ((k : Int) = p * q))] (anyR 118 106 []))))
abbrev zq6 (nm : ByteArray) (w : Int) (g : Int) (y : Int) (n : Nat) (a : Int) (b : Int) (r : Int) (p : Int) (q : Int) (k : Nat) : List V := (zq227 nm w g y n a b r p q k)
abbrev zq14 (nm : ByteArray) (w : Int) (g : Int) (y : Int) (n : Nat) (a : Int) (b : Int) (r : Int) (p : Int) (q : Int) (k : Nat) (i : Nat) : List V := (catV [lwA nm w g y n a b r p q k, .ptr 2 0, iV 2, iV (n : Int), iV (i : Int)] (anyR 5 219 []))
theorem rk_cell (nm : ByteArray) (gs cs : List Int) (n k : Nat) (T U : Nat) (w g y a b r p q : Int) (hn1 : ¬ (n : Int) < 1) (hn2 : ¬ 12 < n) (hk : ¬ 256 < k) (hz : n * 5 ≤ gs.length) (hnm : Ret cfx 87 [.raw (.string nm)] (.raw (.bool true))) (hs1 : M.btw w 65536 4194304 = true) (hs2 : M.btw g 65536 4194304 = true) (hs3 : M.btw y 0 ((if g < w then g else w).tdiv 4) = true) (hzc : k * 3 ≤ cs.length) (hr : M.btw r 1 8192 = true) (ha : M.btw a 0 4194304 = true) (hb : M.btw b 0 4194304 = true) (hp1 : ¬ p < 1) (hp2 : ¬ 16 < p) (hq1 : ¬ q < 1) (hq2 : ¬ 16 < q) (hpq : 0 ≤ p * q ∧ p * q ≤ 256) (hkk : (k : Int) = p * q) (i : Nat) (hR0 : (zq160 nm gs cs n k T U w g y a b r p q)) (hR1 : Runs cfx 0 3 none (.loop (loopOf cfx.P 45 1)) (rcl_T nm gs cs n k T U w g y a b r p q 0) (rcl_H nm gs cs n k T U w g y a b r p q 0) (.ret) (rcl_T1 nm gs cs n k T U w g y a b r p q i) (rcl_H1 nm gs cs n k T U w g y a b r p q i))  : Meets cfx 0 45 [lwA nm w g y n a b r p q k] [bkG gs T, bkI cs U] (iV 2) [bkG gs T, bkI cs U] := by
  have kq := M.quarter_bd hs1 hs2
  refine Meets.post (meets_ev cfx_mixed cfx_call zz zb (n := 40) (ans := [Ans.go, zF, zF, zF, zF, zF, Ans.ret (V.raw (.bool true)), zF, Ans.ret (V.raw (.bool (M.btw w 65536 4194304))), zF, zF, Ans.ret (V.raw (.bool (M.btw g 65536 4194304))), zF, zF, Ans.ret (V.raw (.bool (M.btw y 0 ((if g < w then g else w).tdiv 4)))), zF, zF, Ans.loop (Ex.exit 0) (zq18 nm w g y n a b r p q k) [bkG gs T, bkI cs U, bkW nm w g y n a b r p q k], Ans.ret (V.raw (.bool (M.btw r 1 8192))), zF, Ans.ret (V.raw (.bool (M.btw a 0 4194304))), zF, zF, Ans.ret (V.raw (.bool (M.btw b 0 4194304))), zF, zF, zF, zF, zF, zF, zF, zF, zF, zF, zF, zF, Ans.loop Ex.ret (zq14 nm w g y n a b r p q k i) [bkG gs T, bkI cs U, bkW nm w g y n a b r p q k]]) (v := (iV 2)) (h' := [bkG gs T, bkI cs U, bkW nm w g y n a b r p q k]) (cons := [(decide ((n : Int) < 1) = false), (false = false), (decide (12 < (n : Int)) = false), (false = false), (decide (256 < (k : Int)) = false), (Ret cfx 87 [V.raw (Value.string nm)] (V.raw (.bool true))), (false = false), (Ret cfx 70 [iV w, iV 65536, iV 4194304] (V.raw (.bool (M.btw w 65536 4194304)))), (false = false), ((!M.btw w 65536 4194304) = false), (Ret cfx 70 [iV g, iV 65536, iV 4194304] (V.raw (.bool (M.btw g 65536 4194304)))), (false = false), ((!M.btw g 65536 4194304) = false), ((4 : Int) ≠ (0 : Int)), (inR IntKind.i64 ((if g < w then g else w).tdiv 4)), ((zq204 y g w)), (false = false), ((!M.btw y 0 ((if g < w then g else w).tdiv 4)) = false), ((zq3 nm w g y n a b r p q k gs T cs U)), (Ret cfx 70 [iV r, iV 1, iV 8192] (V.raw (.bool (M.btw r 1 8192)))), ((!M.btw r 1 8192) = false), (Ret cfx 70 [iV a, iV 0, iV 4194304] (V.raw (.bool (M.btw a 0 4194304)))), (false = false), ((!M.btw a 0 4194304) = false), (Ret cfx 70 [iV b, iV 0, iV 4194304] (V.raw (.bool (M.btw b 0 4194304)))), (false = false), ((!M.btw b 0 4194304) = false), (false = false), (decide (p < 1) = false), (false = false), (decide (16 < p) = false), (false = false), (decide (q < 1) = false), (false = false), (decide (16 < q) = false), (inR IntKind.i64 (p * q)), (false = false), ((!decide ((k : Int) = p * q)) = false), (Runs cfx 0 3 none (.loop (loopOf cfx.P 45 1)) (zq6 nm w g y n a b r p q k) [bkG gs T, bkI cs U, bkW nm w g y n a b r p q k] (Ex.ret) (zq14 nm w g y n a b r p q k i) [bkG gs T, bkI cs U, bkW nm w g y n a b r p q k])]) zk
    ⟨zdo, rfl, zdo, rfl, zdo, (hnm), rfl, (lnWithin _ _ _), rfl, zdf, (lnWithin _ _ _), rfl, zdf, zds, inR_i64 zo zo, (lnWithin _ _ _), rfl, zdf, (by
      refine Runs.pre (fun b e => by cases e) (fun RT RH => ?_) (hR0)
      exact reshape2 (lim := 0) 3 (t := (zq25 nm w g y n a b r p q k)) (h := [bkG gs T, bkI cs U, bkW nm w g y n a b r p q k]) cfx_G rfl [] zk zk zdr RT RH), (lnWithin _ _ _), zdf, (lnWithin _ _ _), rfl, zdf, (lnWithin _ _ _), rfl, zdf, rfl, zdo, rfl, zdo, rfl, zdo, rfl, zdo, inR_i64 zo zo, rfl, zdf, (by
      refine Runs.pre (fun b e => by cases e) (fun RT RH => ?_) (hR1)
      exact reshape2 (lim := 0) 3 (t := (zq6 nm w g y n a b r p q k)) (h := [bkG gs T, bkI cs U, bkW nm w g y n a b r p q k]) cfx_G rfl [] zk zk zdr RT RH), trivial⟩) zk zt0
abbrev zq230 (nm : ByteArray) (w : Int) (g : Int) (y : Int) (n : Nat) (a : Int) (b : Int) (r : Int) (p : Int) (q : Int) (k : Nat) : List V := (catV [lwA nm w g y n a b r p q k, .ptr 2 0, iV 0, iV (n : Int), iV (k : Int)] (anyR 5 219 []))
abbrev zq1 (nm : ByteArray) (w : Int) (g : Int) (y : Int) (n : Nat) (a : Int) (b : Int) (r : Int) (p : Int) (q : Int) (k : Nat) (gs : List Int) (T : Nat) (cs : List Int) (U : Nat) : Prop := Runs cfx 0 3 none (.loop (loopOf cfx.P 45 1)) (zq227 nm w g y n a b r p q k) [bkG gs T, bkI cs U, bkW nm w g y n a b r p q k] (Ex.exit 2) (zq230 nm w g y n a b r p q k) [bkG gs T, bkI cs U, bkW nm w g y n a b r p q k]
abbrev zq228 (nm : ByteArray) (w : Int) (g : Int) (y : Int) (n : Nat) (a : Int) (b : Int) (r : Int) (p : Int) (q : Int) (k : Nat) (m : Nat) : List V := (catV [lwA nm w g y n a b r p q k, .ptr 2 0, iV 0, iV (n : Int), iV (k : Int), .slo 3 m, iV 0] (anyR 7 125 (catV [lwA nm w g y n a b r p q k, .slo 3 m] (anyR 134 90 []))))
abbrev zq229 (nm : ByteArray) (w : Int) (g : Int) (y : Int) (n : Nat) (a : Int) (b : Int) (r : Int) (p : Int) (q : Int) (k : Nat) (m : Nat) (i : Nat) : List V := (catV [lwA nm w g y n a b r p q k, .ptr 2 0, iV 2, iV (n : Int), iV (k : Int), .slo 3 m, iV (i : Int)] (anyR 7 217 []))
abbrev zq2 (nm : ByteArray) (w : Int) (g : Int) (y : Int) (n : Nat) (a : Int) (b : Int) (r : Int) (p : Int) (q : Int) (k : Nat) (m : Nat) (gs : List Int) (T : Nat) (cs : List Int) (U : Nat) (zs : List Int) (i : Nat) : Prop := Runs cfx 0 4 none (.loop (loopOf cfx.P 45 2)) (zq228 nm w g y n a b r p q k m) (zq258 gs T cs U nm w g y n a b r p q k zs) (Ex.ret) (zq229 nm w g y n a b r p q k m i) (zq258 gs T cs U nm w g y n a b r p q k zs)
abbrev zq7 (nm : ByteArray) (w : Int) (g : Int) (y : Int) (n : Nat) (a : Int) (b : Int) (r : Int) (p : Int) (q : Int) (k : Nat) (m : Nat) : List V := (zq228 nm w g y n a b r p q k m)
abbrev zq8 (nm : ByteArray) (w : Int) (g : Int) (y : Int) (n : Nat) (a : Int) (b : Int) (r : Int) (p : Int) (q : Int) (k : Nat) (m : Nat) (i : Nat) : List V := (zq229 nm w g y n a b r p q k m i)
abbrev zq12 (nm : ByteArray) (w : Int) (g : Int) (y : Int) (n : Nat) (a : Int) (b : Int) (r : Int) (p : Int) (q : Int) (k : Nat) : List V := (zq230 nm w g y n a b r p q k)
abbrev zq157 (nm : ByteArray) (w : Int) (g : Int) (y : Int) (n : Nat) (a : Int) (b : Int) (r : Int) (p : Int) (q : Int) (k : Nat) (gs : List Int) (T : Nat) (cs : List Int) (U : Nat) (m : Nat) (zs : List Int) : Prop := Meets cfx 0 54 [lwA nm w g y n a b r p q k] [bkG gs T, bkI cs U, bkW nm w g y n a b r p q k] (.slo 3 m) (zq258 gs T cs U nm w g y n a b r p q k zs)
theorem rk_fitx (nm : ByteArray) (gs cs : List Int) (n k : Nat) (T U : Nat) (w g y a b r p q : Int) (zs : List Int) (m : Nat) (hn1 : ¬ (n : Int) < 1) (hn2 : ¬ 12 < n) (hk : ¬ 256 < k) (hz : n * 5 ≤ gs.length) (hnm : Ret cfx 87 [.raw (.string nm)] (.raw (.bool true))) (hs1 : M.btw w 65536 4194304 = true) (hs2 : M.btw g 65536 4194304 = true) (hs3 : M.btw y 0 ((if g < w then g else w).tdiv 4) = true) (hzc : k * 3 ≤ cs.length) (hr : M.btw r 1 8192 = true) (ha : M.btw a 0 4194304 = true) (hb : M.btw b 0 4194304 = true) (hp1 : ¬ p < 1) (hp2 : ¬ 16 < p) (hq1 : ¬ q < 1) (hq2 : ¬ 16 < q) (hpq : 0 ≤ p * q ∧ p * q ≤ 256) (hkk : (k : Int) = p * q) (hR0 : (zq160 nm gs cs n k T U w g y a b r p q)) (hR1 : (zq161 nm gs cs n k T U w g y a b r p q)) (hpo : (zq200 nm w g y n a b r p q k gs T cs U m zs)) (hzl : zs.length = m * 3) (hm : m ≤ 100) (hwg : (-4194304 ≤ w ∧ w ≤ 4194304) ∧ (-4194304 ≤ g ∧ g ≤ 4194304)) (i : Nat) (hR2 : Runs cfx 0 4 none (.loop (loopOf cfx.P 45 2)) (rpg_T nm gs cs n k T U w g y a b r p q zs m 0) (rpg_H nm gs cs n k T U w g y a b r p q zs m 0) (.ret) (rpx_T1 nm gs cs n k T U w g y a b r p q zs m i) (rpx_H1 nm gs cs n k T U w g y a b r p q zs m i))  : Meets cfx 0 45 [lwA nm w g y n a b r p q k] [bkG gs T, bkI cs U] (iV 2) [bkG gs T, bkI cs U] := by
  have kq := M.quarter_bd hs1 hs2
  refine Meets.post (meets_ev cfx_mixed cfx_call zz zb (n := 40) (ans := [Ans.go, zF, zF, zF, zF, zF, Ans.ret (V.raw (.bool true)), zF, Ans.ret (V.raw (.bool (M.btw w 65536 4194304))), zF, zF, Ans.ret (V.raw (.bool (M.btw g 65536 4194304))), zF, zF, Ans.ret (V.raw (.bool (M.btw y 0 ((if g < w then g else w).tdiv 4)))), zF, zF, Ans.loop (Ex.exit 0) (zq18 nm w g y n a b r p q k) [bkG gs T, bkI cs U, bkW nm w g y n a b r p q k], Ans.ret (V.raw (.bool (M.btw r 1 8192))), zF, Ans.ret (V.raw (.bool (M.btw a 0 4194304))), zF, zF, Ans.ret (V.raw (.bool (M.btw b 0 4194304))), zF, zF, zF, zF, zF, zF, zF, zF, zF, zF, zF, zF, Ans.loop (Ex.exit 2) (zq12 nm w g y n a b r p q k) [bkG gs T, bkI cs U, bkW nm w g y n a b r p q k], Ans.reth (.slo 3 m) (zq219 gs T cs U nm w g y n a b r p q k zs), Ans.loop Ex.ret (zq8 nm w g y n a b r p q k m i) (zq219 gs T cs U nm w g y n a b r p q k zs)]) (v := (iV 2)) (h' := (zq219 gs T cs U nm w g y n a b r p q k zs)) (cons := [(decide ((n : Int) < 1) = false), (false = false), (decide (12 < (n : Int)) = false), (false = false), (decide (256 < (k : Int)) = false), (Ret cfx 87 [V.raw (Value.string nm)] (V.raw (.bool true))), (false = false), (Ret cfx 70 [iV w, iV 65536, iV 4194304] (V.raw (.bool (M.btw w 65536 4194304)))), (false = false), ((!M.btw w 65536 4194304) = false), (Ret cfx 70 [iV g, iV 65536, iV 4194304] (V.raw (.bool (M.btw g 65536 4194304)))), (false = false), ((!M.btw g 65536 4194304) = false), ((4 : Int) ≠ (0 : Int)), (inR IntKind.i64 ((if g < w then g else w).tdiv 4)), ((zq204 y g w)), (false = false), ((!M.btw y 0 ((if g < w then g else w).tdiv 4)) = false), ((zq3 nm w g y n a b r p q k gs T cs U)), (Ret cfx 70 [iV r, iV 1, iV 8192] (V.raw (.bool (M.btw r 1 8192)))), ((!M.btw r 1 8192) = false), (Ret cfx 70 [iV a, iV 0, iV 4194304] (V.raw (.bool (M.btw a 0 4194304)))), (false = false), ((!M.btw a 0 4194304) = false), (Ret cfx 70 [iV b, iV 0, iV 4194304] (V.raw (.bool (M.btw b 0 4194304)))), (false = false), ((!M.btw b 0 4194304) = false), (false = false), (decide (p < 1) = false), (false = false), (decide (16 < p) = false), (false = false), (decide (q < 1) = false), (false = false), (decide (16 < q) = false), (inR IntKind.i64 (p * q)), (false = false), ((!decide ((k : Int) = p * q)) = false), ((zq1 nm w g y n a b r p q k gs T cs U)), ((zq157 nm w g y n a b r p q k gs T cs U m zs)), ((zq2 nm w g y n a b r p q k m gs T cs U zs i))]) zk
    ⟨zdo, rfl, zdo, rfl, zdo, (hnm), rfl, (lnWithin _ _ _), rfl, zdf, (lnWithin _ _ _), rfl, zdf, zds, inR_i64 zo zo, (lnWithin _ _ _), rfl, zdf, (by
      refine Runs.pre (fun b e => by cases e) (fun RT RH => ?_) (hR0)
      exact reshape2 (lim := 0) 3 (t := (zq25 nm w g y n a b r p q k)) (h := [bkG gs T, bkI cs U, bkW nm w g y n a b r p q k]) cfx_G rfl [] zk zk zdr RT RH), (lnWithin _ _ _), zdf, (lnWithin _ _ _), rfl, zdf, (lnWithin _ _ _), rfl, zdf, rfl, zdo, rfl, zdo, rfl, zdo, rfl, zdo, inR_i64 zo zo, rfl, zdf, (by
      refine Runs.pre (fun b e => by cases e) (fun RT RH => ?_) (hR1)
      exact reshape2 (lim := 0) 3 (t := (zq6 nm w g y n a b r p q k)) (h := [bkG gs T, bkI cs U, bkW nm w g y n a b r p q k]) cfx_G rfl [] zk zk zdr RT RH), (by exact below2 (lim := 0) rfl rfl 0 1 (N := [some (.cells (ints zs) 26 (.row 3))]) hpo (mix_all _ _) (ints_all _) rfl (new_row _ _ _) rfl rfl zz), (by
      refine Runs.pre (fun b e => by cases e) (fun RT RH => ?_) (hR2)
      exact reshape2 (lim := 0) 4 (t := (zq7 nm w g y n a b r p q k m)) (h := (zq219 gs T cs U nm w g y n a b r p q k zs)) cfx_G rfl [] zk zk zdr RT RH), trivial⟩) zk zt0
theorem rk_fity (nm : ByteArray) (gs cs : List Int) (n k : Nat) (T U : Nat) (w g y a b r p q : Int) (zs : List Int) (m : Nat) (hn1 : ¬ (n : Int) < 1) (hn2 : ¬ 12 < n) (hk : ¬ 256 < k) (hz : n * 5 ≤ gs.length) (hnm : Ret cfx 87 [.raw (.string nm)] (.raw (.bool true))) (hs1 : M.btw w 65536 4194304 = true) (hs2 : M.btw g 65536 4194304 = true) (hs3 : M.btw y 0 ((if g < w then g else w).tdiv 4) = true) (hzc : k * 3 ≤ cs.length) (hr : M.btw r 1 8192 = true) (ha : M.btw a 0 4194304 = true) (hb : M.btw b 0 4194304 = true) (hp1 : ¬ p < 1) (hp2 : ¬ 16 < p) (hq1 : ¬ q < 1) (hq2 : ¬ 16 < q) (hpq : 0 ≤ p * q ∧ p * q ≤ 256) (hkk : (k : Int) = p * q) (hR0 : (zq160 nm gs cs n k T U w g y a b r p q)) (hR1 : (zq161 nm gs cs n k T U w g y a b r p q)) (hpo : (zq200 nm w g y n a b r p q k gs T cs U m zs)) (hzl : zs.length = m * 3) (hm : m ≤ 100) (hwg : (-4194304 ≤ w ∧ w ≤ 4194304) ∧ (-4194304 ≤ g ∧ g ≤ 4194304)) (i : Nat) (hR2 : Runs cfx 0 4 none (.loop (loopOf cfx.P 45 2)) (rpg_T nm gs cs n k T U w g y a b r p q zs m 0) (rpg_H nm gs cs n k T U w g y a b r p q zs m 0) (.ret) (rpy_T1 nm gs cs n k T U w g y a b r p q zs m i) (rpy_H1 nm gs cs n k T U w g y a b r p q zs m i))  : Meets cfx 0 45 [lwA nm w g y n a b r p q k] [bkG gs T, bkI cs U] (iV 2) [bkG gs T, bkI cs U] := by
  have kq := M.quarter_bd hs1 hs2
  refine Meets.post (meets_ev cfx_mixed cfx_call zz zb (n := 40) (ans := [Ans.go, zF, zF, zF, zF, zF, Ans.ret (V.raw (.bool true)), zF, Ans.ret (V.raw (.bool (M.btw w 65536 4194304))), zF, zF, Ans.ret (V.raw (.bool (M.btw g 65536 4194304))), zF, zF, Ans.ret (V.raw (.bool (M.btw y 0 ((if g < w then g else w).tdiv 4)))), zF, zF, Ans.loop (Ex.exit 0) (zq18 nm w g y n a b r p q k) [bkG gs T, bkI cs U, bkW nm w g y n a b r p q k], Ans.ret (V.raw (.bool (M.btw r 1 8192))), zF, Ans.ret (V.raw (.bool (M.btw a 0 4194304))), zF, zF, Ans.ret (V.raw (.bool (M.btw b 0 4194304))), zF, zF, zF, zF, zF, zF, zF, zF, zF, zF, zF, zF, Ans.loop (Ex.exit 2) (zq12 nm w g y n a b r p q k) [bkG gs T, bkI cs U, bkW nm w g y n a b r p q k], Ans.reth (.slo 3 m) (zq219 gs T cs U nm w g y n a b r p q k zs), Ans.loop Ex.ret (zq8 nm w g y n a b r p q k m i) (zq219 gs T cs U nm w g y n a b r p q k zs)]) (v := (iV 2)) (h' := (zq219 gs T cs U nm w g y n a b r p q k zs)) (cons := [(decide ((n : Int) < 1) = false), (false = false), (decide (12 < (n : Int)) = false), (false = false), (decide (256 < (k : Int)) = false), (Ret cfx 87 [V.raw (Value.string nm)] (V.raw (.bool true))), (false = false), (Ret cfx 70 [iV w, iV 65536, iV 4194304] (V.raw (.bool (M.btw w 65536 4194304)))), (false = false), ((!M.btw w 65536 4194304) = false), (Ret cfx 70 [iV g, iV 65536, iV 4194304] (V.raw (.bool (M.btw g 65536 4194304)))), (false = false), ((!M.btw g 65536 4194304) = false), ((4 : Int) ≠ (0 : Int)), (inR IntKind.i64 ((if g < w then g else w).tdiv 4)), ((zq204 y g w)), (false = false), ((!M.btw y 0 ((if g < w then g else w).tdiv 4)) = false), ((zq3 nm w g y n a b r p q k gs T cs U)), (Ret cfx 70 [iV r, iV 1, iV 8192] (V.raw (.bool (M.btw r 1 8192)))), ((!M.btw r 1 8192) = false), (Ret cfx 70 [iV a, iV 0, iV 4194304] (V.raw (.bool (M.btw a 0 4194304)))), (false = false), ((!M.btw a 0 4194304) = false), (Ret cfx 70 [iV b, iV 0, iV 4194304] (V.raw (.bool (M.btw b 0 4194304)))), (false = false), ((!M.btw b 0 4194304) = false), (false = false), (decide (p < 1) = false), (false = false), (decide (16 < p) = false), (false = false), (decide (q < 1) = false), (false = false), (decide (16 < q) = false), (inR IntKind.i64 (p * q)), (false = false), ((!decide ((k : Int) = p * q)) = false), ((zq1 nm w g y n a b r p q k gs T cs U)), ((zq157 nm w g y n a b r p q k gs T cs U m zs)), ((zq2 nm w g y n a b r p q k m gs T cs U zs i))]) zk
    ⟨zdo, rfl, zdo, rfl, zdo, (hnm), rfl, (lnWithin _ _ _), rfl, zdf, (lnWithin _ _ _), rfl, zdf, zds, inR_i64 zo zo, (lnWithin _ _ _), rfl, zdf, (by
      refine Runs.pre (fun b e => by cases e) (fun RT RH => ?_) (hR0)
      exact reshape2 (lim := 0) 3 (t := (zq25 nm w g y n a b r p q k)) (h := [bkG gs T, bkI cs U, bkW nm w g y n a b r p q k]) cfx_G rfl [] zk zk zdr RT RH), (lnWithin _ _ _), zdf, (lnWithin _ _ _), rfl, zdf, (lnWithin _ _ _), rfl, zdf, rfl, zdo, rfl, zdo, rfl, zdo, rfl, zdo, inR_i64 zo zo, rfl, zdf, (by
      refine Runs.pre (fun b e => by cases e) (fun RT RH => ?_) (hR1)
      exact reshape2 (lim := 0) 3 (t := (zq6 nm w g y n a b r p q k)) (h := [bkG gs T, bkI cs U, bkW nm w g y n a b r p q k]) cfx_G rfl [] zk zk zdr RT RH), (by exact below2 (lim := 0) rfl rfl 0 1 (N := [some (.cells (ints zs) 26 (.row 3))]) hpo (mix_all _ _) (ints_all _) rfl (new_row _ _ _) rfl rfl zz), (by
      refine Runs.pre (fun b e => by cases e) (fun RT RH => ?_) (hR2)
      exact reshape2 (lim := 0) 4 (t := (zq7 nm w g y n a b r p q k m)) (h := (zq219 gs T cs U nm w g y n a b r p q k zs)) cfx_G rfl [] zk zk zdr RT RH), trivial⟩) zk zt0
theorem rk_apart (nm : ByteArray) (gs cs : List Int) (n k : Nat) (T U : Nat) (w g y a b r p q : Int) (zs : List Int) (m : Nat) (hn1 : ¬ (n : Int) < 1) (hn2 : ¬ 12 < n) (hk : ¬ 256 < k) (hz : n * 5 ≤ gs.length) (hnm : Ret cfx 87 [.raw (.string nm)] (.raw (.bool true))) (hs1 : M.btw w 65536 4194304 = true) (hs2 : M.btw g 65536 4194304 = true) (hs3 : M.btw y 0 ((if g < w then g else w).tdiv 4) = true) (hzc : k * 3 ≤ cs.length) (hr : M.btw r 1 8192 = true) (ha : M.btw a 0 4194304 = true) (hb : M.btw b 0 4194304 = true) (hp1 : ¬ p < 1) (hp2 : ¬ 16 < p) (hq1 : ¬ q < 1) (hq2 : ¬ 16 < q) (hpq : 0 ≤ p * q ∧ p * q ≤ 256) (hkk : (k : Int) = p * q) (hR0 : (zq160 nm gs cs n k T U w g y a b r p q)) (hR1 : (zq161 nm gs cs n k T U w g y a b r p q)) (hpo : (zq200 nm w g y n a b r p q k gs T cs U m zs)) (hzl : zs.length = m * 3) (hm : m ≤ 100) (hwg : (-4194304 ≤ w ∧ w ≤ 4194304) ∧ (-4194304 ≤ g ∧ g ≤ 4194304)) (i j : Nat) (hR2 : Runs cfx 0 4 none (.loop (loopOf cfx.P 45 2)) (rpg_T nm gs cs n k T U w g y a b r p q zs m 0) (rpg_H nm gs cs n k T U w g y a b r p q zs m 0) (.ret) (rpgb_T1 nm gs cs n k T U w g y a b r p q zs m i j) (rpgb_H1 nm gs cs n k T U w g y a b r p q zs m i j))  : Meets cfx 0 45 [lwA nm w g y n a b r p q k] [bkG gs T, bkI cs U] (iV 2) [bkG gs T, bkI cs U] := by
  have kq := M.quarter_bd hs1 hs2
  refine Meets.post (meets_ev cfx_mixed cfx_call zz zb (n := 40) (ans := [Ans.go, zF, zF, zF, zF, zF, Ans.ret (V.raw (.bool true)), zF, Ans.ret (V.raw (.bool (M.btw w 65536 4194304))), zF, zF, Ans.ret (V.raw (.bool (M.btw g 65536 4194304))), zF, zF, Ans.ret (V.raw (.bool (M.btw y 0 ((if g < w then g else w).tdiv 4)))), zF, zF, Ans.loop (Ex.exit 0) (zq18 nm w g y n a b r p q k) [bkG gs T, bkI cs U, bkW nm w g y n a b r p q k], Ans.ret (V.raw (.bool (M.btw r 1 8192))), zF, Ans.ret (V.raw (.bool (M.btw a 0 4194304))), zF, zF, Ans.ret (V.raw (.bool (M.btw b 0 4194304))), zF, zF, zF, zF, zF, zF, zF, zF, zF, zF, zF, zF, Ans.loop (Ex.exit 2) (zq12 nm w g y n a b r p q k) [bkG gs T, bkI cs U, bkW nm w g y n a b r p q k], Ans.reth (.slo 3 m) (zq219 gs T cs U nm w g y n a b r p q k zs), Ans.loop Ex.ret (zq8 nm w g y n a b r p q k m i) (zq219 gs T cs U nm w g y n a b r p q k zs)]) (v := (iV 2)) (h' := (zq219 gs T cs U nm w g y n a b r p q k zs)) (cons := [(decide ((n : Int) < 1) = false), (false = false), (decide (12 < (n : Int)) = false), (false = false), (decide (256 < (k : Int)) = false), (Ret cfx 87 [V.raw (Value.string nm)] (V.raw (.bool true))), (false = false), (Ret cfx 70 [iV w, iV 65536, iV 4194304] (V.raw (.bool (M.btw w 65536 4194304)))), (false = false), ((!M.btw w 65536 4194304) = false), (Ret cfx 70 [iV g, iV 65536, iV 4194304] (V.raw (.bool (M.btw g 65536 4194304)))), (false = false), ((!M.btw g 65536 4194304) = false), ((4 : Int) ≠ (0 : Int)), (inR IntKind.i64 ((if g < w then g else w).tdiv 4)), ((zq204 y g w)), (false = false), ((!M.btw y 0 ((if g < w then g else w).tdiv 4)) = false), ((zq3 nm w g y n a b r p q k gs T cs U)), (Ret cfx 70 [iV r, iV 1, iV 8192] (V.raw (.bool (M.btw r 1 8192)))), ((!M.btw r 1 8192) = false), (Ret cfx 70 [iV a, iV 0, iV 4194304] (V.raw (.bool (M.btw a 0 4194304)))), (false = false), ((!M.btw a 0 4194304) = false), (Ret cfx 70 [iV b, iV 0, iV 4194304] (V.raw (.bool (M.btw b 0 4194304)))), (false = false), ((!M.btw b 0 4194304) = false), (false = false), (decide (p < 1) = false), (false = false), (decide (16 < p) = false), (false = false), (decide (q < 1) = false), (false = false), (decide (16 < q) = false), (inR IntKind.i64 (p * q)), (false = false), ((!decide ((k : Int) = p * q)) = false), ((zq1 nm w g y n a b r p q k gs T cs U)), ((zq157 nm w g y n a b r p q k gs T cs U m zs)), ((zq2 nm w g y n a b r p q k m gs T cs U zs i))]) zk
    ⟨zdo, rfl, zdo, rfl, zdo, (hnm), rfl, (lnWithin _ _ _), rfl, zdf, (lnWithin _ _ _), rfl, zdf, zds, inR_i64 zo zo, (lnWithin _ _ _), rfl, zdf, (by
      refine Runs.pre (fun b e => by cases e) (fun RT RH => ?_) (hR0)
      exact reshape2 (lim := 0) 3 (t := (zq25 nm w g y n a b r p q k)) (h := [bkG gs T, bkI cs U, bkW nm w g y n a b r p q k]) cfx_G rfl [] zk zk zdr RT RH), (lnWithin _ _ _), zdf, (lnWithin _ _ _), rfl, zdf, (lnWithin _ _ _), rfl, zdf, rfl, zdo, rfl, zdo, rfl, zdo, rfl, zdo, inR_i64 zo zo, rfl, zdf, (by
      refine Runs.pre (fun b e => by cases e) (fun RT RH => ?_) (hR1)
      exact reshape2 (lim := 0) 3 (t := (zq6 nm w g y n a b r p q k)) (h := [bkG gs T, bkI cs U, bkW nm w g y n a b r p q k]) cfx_G rfl [] zk zk zdr RT RH), (by exact below2 (lim := 0) rfl rfl 0 1 (N := [some (.cells (ints zs) 26 (.row 3))]) hpo (mix_all _ _) (ints_all _) rfl (new_row _ _ _) rfl rfl zz), (by
      refine Runs.pre (fun b e => by cases e) (fun RT RH => ?_) (hR2)
      exact reshape2 (lim := 0) 4 (t := (zq7 nm w g y n a b r p q k m)) (h := (zq219 gs T cs U nm w g y n a b r p q k zs)) cfx_G rfl [] zk zk zdr RT RH), trivial⟩) zk zt0
abbrev zq9 (nm : ByteArray) (w : Int) (g : Int) (y : Int) (n : Nat) (a : Int) (b : Int) (r : Int) (p : Int) (q : Int) (k : Nat) (m : Nat) : List V := (catV [lwA nm w g y n a b r p q k, .ptr 2 0, iV 0, iV (n : Int), iV (k : Int), .slo 3 m, iV (m : Int)] (anyR 7 217 []))
theorem rk_ok (nm : ByteArray) (gs cs : List Int) (n k : Nat) (T U : Nat) (w g y a b r p q : Int) (zs : List Int) (m : Nat) (hn1 : ¬ (n : Int) < 1) (hn2 : ¬ 12 < n) (hk : ¬ 256 < k) (hz : n * 5 ≤ gs.length) (hnm : Ret cfx 87 [.raw (.string nm)] (.raw (.bool true))) (hs1 : M.btw w 65536 4194304 = true) (hs2 : M.btw g 65536 4194304 = true) (hs3 : M.btw y 0 ((if g < w then g else w).tdiv 4) = true) (hzc : k * 3 ≤ cs.length) (hr : M.btw r 1 8192 = true) (ha : M.btw a 0 4194304 = true) (hb : M.btw b 0 4194304 = true) (hp1 : ¬ p < 1) (hp2 : ¬ 16 < p) (hq1 : ¬ q < 1) (hq2 : ¬ 16 < q) (hpq : 0 ≤ p * q ∧ p * q ≤ 256) (hkk : (k : Int) = p * q) (hR0 : (zq160 nm gs cs n k T U w g y a b r p q)) (hR1 : (zq161 nm gs cs n k T U w g y a b r p q)) (hpo : (zq200 nm w g y n a b r p q k gs T cs U m zs)) (hzl : zs.length = m * 3) (hm : m ≤ 100) (hwg : (-4194304 ≤ w ∧ w ≤ 4194304) ∧ (-4194304 ≤ g ∧ g ≤ 4194304))  (hR2 : Runs cfx 0 4 none (.loop (loopOf cfx.P 45 2)) (rpg_T nm gs cs n k T U w g y a b r p q zs m 0) (rpg_H nm gs cs n k T U w g y a b r p q zs m 0) (.exit 4) (rpgc_T1 nm gs cs n k T U w g y a b r p q zs m m) (rpgc_H1 nm gs cs n k T U w g y a b r p q zs m m))  : Meets cfx 0 45 [lwA nm w g y n a b r p q k] [bkG gs T, bkI cs U] (iV 0) [bkG gs T, bkI cs U] := by
  have kq := M.quarter_bd hs1 hs2
  refine Meets.post (meets_ev cfx_mixed cfx_call zz zb (n := 40) (ans := [Ans.go, zF, zF, zF, zF, zF, Ans.ret (V.raw (.bool true)), zF, Ans.ret (V.raw (.bool (M.btw w 65536 4194304))), zF, zF, Ans.ret (V.raw (.bool (M.btw g 65536 4194304))), zF, zF, Ans.ret (V.raw (.bool (M.btw y 0 ((if g < w then g else w).tdiv 4)))), zF, zF, Ans.loop (Ex.exit 0) (zq18 nm w g y n a b r p q k) [bkG gs T, bkI cs U, bkW nm w g y n a b r p q k], Ans.ret (V.raw (.bool (M.btw r 1 8192))), zF, Ans.ret (V.raw (.bool (M.btw a 0 4194304))), zF, zF, Ans.ret (V.raw (.bool (M.btw b 0 4194304))), zF, zF, zF, zF, zF, zF, zF, zF, zF, zF, zF, zF, Ans.loop (Ex.exit 2) (zq12 nm w g y n a b r p q k) [bkG gs T, bkI cs U, bkW nm w g y n a b r p q k], Ans.reth (.slo 3 m) (zq219 gs T cs U nm w g y n a b r p q k zs), Ans.loop (Ex.exit 4) (zq9 nm w g y n a b r p q k m) (zq219 gs T cs U nm w g y n a b r p q k zs)]) (v := (iV 0)) (h' := (zq219 gs T cs U nm w g y n a b r p q k zs)) (cons := [(decide ((n : Int) < 1) = false), (false = false), (decide (12 < (n : Int)) = false), (false = false), (decide (256 < (k : Int)) = false), (Ret cfx 87 [V.raw (Value.string nm)] (V.raw (.bool true))), (false = false), (Ret cfx 70 [iV w, iV 65536, iV 4194304] (V.raw (.bool (M.btw w 65536 4194304)))), (false = false), ((!M.btw w 65536 4194304) = false), (Ret cfx 70 [iV g, iV 65536, iV 4194304] (V.raw (.bool (M.btw g 65536 4194304)))), (false = false), ((!M.btw g 65536 4194304) = false), ((4 : Int) ≠ (0 : Int)), (inR IntKind.i64 ((if g < w then g else w).tdiv 4)), ((zq204 y g w)), (false = false), ((!M.btw y 0 ((if g < w then g else w).tdiv 4)) = false), ((zq3 nm w g y n a b r p q k gs T cs U)), (Ret cfx 70 [iV r, iV 1, iV 8192] (V.raw (.bool (M.btw r 1 8192)))), ((!M.btw r 1 8192) = false), (Ret cfx 70 [iV a, iV 0, iV 4194304] (V.raw (.bool (M.btw a 0 4194304)))), (false = false), ((!M.btw a 0 4194304) = false), (Ret cfx 70 [iV b, iV 0, iV 4194304] (V.raw (.bool (M.btw b 0 4194304)))), (false = false), ((!M.btw b 0 4194304) = false), (false = false), (decide (p < 1) = false), (false = false), (decide (16 < p) = false), (false = false), (decide (q < 1) = false), (false = false), (decide (16 < q) = false), (inR IntKind.i64 (p * q)), (false = false), ((!decide ((k : Int) = p * q)) = false), ((zq1 nm w g y n a b r p q k gs T cs U)), ((zq157 nm w g y n a b r p q k gs T cs U m zs)), (Runs cfx 0 4 none (.loop (loopOf cfx.P 45 2)) (zq7 nm w g y n a b r p q k m) (zq219 gs T cs U nm w g y n a b r p q k zs) (Ex.exit 4) (zq9 nm w g y n a b r p q k m) (zq219 gs T cs U nm w g y n a b r p q k zs))]) zk
    ⟨zdo, rfl, zdo, rfl, zdo, (hnm), rfl, (lnWithin _ _ _), rfl, zdf, (lnWithin _ _ _), rfl, zdf, zds, inR_i64 zo zo, (lnWithin _ _ _), rfl, zdf, (by
      refine Runs.pre (fun b e => by cases e) (fun RT RH => ?_) (hR0)
      exact reshape2 (lim := 0) 3 (t := (zq25 nm w g y n a b r p q k)) (h := [bkG gs T, bkI cs U, bkW nm w g y n a b r p q k]) cfx_G rfl [] zk zk zdr RT RH), (lnWithin _ _ _), zdf, (lnWithin _ _ _), rfl, zdf, (lnWithin _ _ _), rfl, zdf, rfl, zdo, rfl, zdo, rfl, zdo, rfl, zdo, inR_i64 zo zo, rfl, zdf, (by
      refine Runs.pre (fun b e => by cases e) (fun RT RH => ?_) (hR1)
      exact reshape2 (lim := 0) 3 (t := (zq6 nm w g y n a b r p q k)) (h := [bkG gs T, bkI cs U, bkW nm w g y n a b r p q k]) cfx_G rfl [] zk zk zdr RT RH), (by exact below2 (lim := 0) rfl rfl 0 1 (N := [some (.cells (ints zs) 26 (.row 3))]) hpo (mix_all _ _) (ints_all _) rfl (new_row _ _ _) rfl rfl zz), (by
      refine Runs.pre (fun b e => by cases e) (fun RT RH => ?_) (hR2)
      exact reshape2 (lim := 0) 4 (t := (zq7 nm w g y n a b r p q k m)) (h := (zq219 gs T cs U nm w g y n a b r p q k zs)) cfx_G rfl [] zk zk zdr RT RH), trivial⟩) zk zt0
end Go.Proofs.Ytmelbcmfahcffaa
end
section
namespace Go.Proofs.Ytmelbcmfahcffaa
open Go Go.RowKit Go.Proofs.Ytmelbcmfahcffaa.E2
variable (nm : ByteArray) (gs cs : List Int) (n k : Nat) (T U : Nat) (w g y a b r p q : Int)
theorem chkDisc_fit {x y r : Int} (hr : 1 ≤ r ∧ r ≤ 65536) (hx : -4194304 ≤ x ∧ x ≤ 4194304) (hy : -4194304 ≤ y ∧ y ≤ 4194304) : chkDisc x y r = 0 := by
  unfold chkDisc
  rw [if_neg (by omega)]
  unfold M.chk M.okAll
  simp only [List.all_cons, List.all_nil, Bool.and_true, M.fits]
  rw [if_pos (by simp; omega)]
theorem M.fits_disc {w g : Int} {zs : List Int} {m : Nat} (hw : w ≤ 4194304) (hg : g ≤ 4194304) (h : M.fitsB w g zs m = true) (hrad : ∀ j : Nat, j < m → 1 ≤ at' zs (j * 3 + 2) ∧ at' zs (j * 3 + 2) ≤ 8192) : ∀ j : Nat, j < m → chkDisc (at' zs (j * 3)) (at' zs (j * 3 + 1)) (at' zs (j * 3 + 2)) = 0 := fun j hj => by
  have h1 := all_range h j hj
  simp only [M.fitZ, Bool.and_eq_true, M.btw_iff] at h1
  have h2 := hrad j hj
  exact chkDisc_fit zo zo zo
theorem pg_loop (nm : ByteArray) (gs cs zs : List Int) (n k m : Nat) (T U : Nat) (w g y a b r p q : Int) (hpo : (zq198 nm w g y n a b r p q k gs T cs U m zs)) (hr : M.btw r 1 8192 = true) (hz : zs.length = m * 3) (hm : m ≤ 100) (hw : -4194304 ≤ w ∧ w ≤ 4194304) (hg : -4194304 ≤ g ∧ g ≤ 4194304) (hd : ∀ j : Nat, j < m → chkDisc (at' zs (j * 3)) (at' zs (j * 3 + 1)) (at' zs (j * 3 + 2)) = 0) : (M.apartB zs m = true ∧ Runs cfx 0 4 none (.loop (loopOf cfx.P 96 1)) (pg_T nm gs cs zs n k m T U w g y a b r p q 0) (pg_H nm gs cs zs n k m T U w g y a b r p q 0) (.exit 2) (pgc_T1 nm gs cs zs n k m T U w g y a b r p q m) (pgc_H1 nm gs cs zs n k m T U w g y a b r p q m)) ∨ (M.apartB zs m = false ∧ ∃ i j : Nat, Runs cfx 0 4 none (.loop (loopOf cfx.P 96 1)) (pg_T nm gs cs zs n k m T U w g y a b r p q 0) (pg_H nm gs cs zs n k m T U w g y a b r p q 0) (.ret) (pgb_T1 nm gs cs zs n k m T U w g y a b r p q i j) (pgb_H1 nm gs cs zs n k m T U w g y a b r p q i j)) := by
  have hbad : ∀ i : Nat, i < m → (List.range i).all (M.apZ zs i) = false → ∃ j : Nat, Runs cfx 0 4 none (loopOf cfx.P 96 1) (pg_T nm gs cs zs n k m T U w g y a b r p q i) (pg_H nm gs cs zs n k m T U w g y a b r p q i) .ret (pgb_T1 nm gs cs zs n k m T U w g y a b r p q i j) (pgb_H1 nm gs cs zs n k m T U w g y a b r p q i j) := fun i hi hgd => by
    rcases ph_loop nm gs cs zs n k m T U w g y a b r p q hpo hr hz hm hw hg hd i hi with ⟨e1, _⟩ | ⟨_, j, e2⟩
    · rw [e1] at hgd; cases hgd
    · exact ⟨j, pgb_1 nm gs cs zs n k m T U w g y a b r p q hpo hr hz hm hw hg i zo zo j e2⟩
  rcases upto_find (c := cfx) (lim := 0) (n0 := 4) (x := loopOf cfx.P 96 1) noRnd (fun i => (List.range i).all (M.apZ zs i)) (fun i : Nat => pg_T nm gs cs zs n k m T U w g y a b r p q i) (fun i : Nat => pg_H nm gs cs zs n k m T U w g y a b r p q i) m (fun i : Nat => pgb_T1 nm gs cs zs n k m T U w g y a b r p q i (if h : i < m ∧ (List.range i).all (M.apZ zs i) = false then Classical.choose (hbad i h.1 h.2) else 0)) (fun i : Nat => pgb_H1 nm gs cs zs n k m T U w g y a b r p q i (if h : i < m ∧ (List.range i).all (M.apZ zs i) = false then Classical.choose (hbad i h.1 h.2) else 0)) (e := .exit 2) (e1 := .ret) (by simp) (by simp)
    (fun i hi hgd => by
      rcases ph_loop nm gs cs zs n k m T U w g y a b r p q hpo hr hz hm hw hg hd i hi with ⟨_, e2⟩ | ⟨e1, _⟩
      · exact pga_1 nm gs cs zs n k m T U w g y a b r p q hpo hr hz hm hw hg i zo zo e2
      · rw [e1] at hgd; cases hgd)
    (fun i hi hgd => by
      rw [dif_pos ⟨hi, hgd⟩]
      exact Classical.choose_spec (hbad i hi hgd))
    (pgc_1 nm gs cs zs n k m T U w g y a b r p q hpo hr hz hm hw hg m zo zo) with ⟨h1, h2⟩ | ⟨h1, i, hi, h2, h3, h4⟩
  · exact .inl ⟨h1, h2⟩
  · exact .inr ⟨h1, i, _, h4⟩
abbrev zq236 (nm : ByteArray) (w : Int) (g : Int) (y : Int) (n : Nat) (a : Int) (b : Int) (r : Int) (p : Int) (q : Int) (k : Nat) (m : Nat) : List V := (catV [lwA nm w g y n a b r p q k, .ptr 2 0, V.raw (.bool false), .slo 3 m] (anyR 4 13 (catV [.slo 3 m, iV (m : Int), iV (m : Int)] (anyR 20 50 []))))
abbrev zq239 (nm : ByteArray) (w : Int) (g : Int) (y : Int) (n : Nat) (a : Int) (b : Int) (r : Int) (p : Int) (q : Int) (k : Nat) (m : Nat) : List V := (catV [lwA nm w g y n a b r p q k, .ptr 2 0, V.raw (.bool false), .slo 3 m] (repU 6 (catV [.ptr 2 5, .ptr 2 7, iV r, V.raw (.bool (M.btw r 1 8192)), V.raw (.bool !M.btw r 1 8192), lwA nm w g y n a b r p q k, .slo 3 m, .slo 3 m, iV (m : Int), iV 0] (repU 50 []))))
abbrev zq29 (nm : ByteArray) (w : Int) (g : Int) (y : Int) (n : Nat) (a : Int) (b : Int) (r : Int) (p : Int) (q : Int) (k : Nat) (m : Nat) (gs : List Int) (T : Nat) (cs : List Int) (U : Nat) (zs : List Int) : Prop := Runs cfx 0 4 none (.loop (loopOf cfx.P 96 0)) (zq239 nm w g y n a b r p q k m) (zq258 gs T cs U nm w g y n a b r p q k zs) (Ex.exit 0) (zq236 nm w g y n a b r p q k m) (zq258 gs T cs U nm w g y n a b r p q k zs)
abbrev zq53 (nm : ByteArray) (w : Int) (g : Int) (y : Int) (n : Nat) (a : Int) (b : Int) (r : Int) (p : Int) (q : Int) (k : Nat) (m : Nat) : List V := (catV [lwA nm w g y n a b r p q k, .ptr 2 0, V.raw (.bool false), .slo 3 m] (anyR 4 13 (catV [.slo 3 m, iV (m : Int), iV (m : Int)] (anyR 20 30 (catV [.slo 3 m, iV (m : Int), iV 0] (anyR 53 17 []))))))
abbrev zq54 (nm : ByteArray) (w : Int) (g : Int) (y : Int) (n : Nat) (a : Int) (b : Int) (r : Int) (p : Int) (q : Int) (k : Nat) (m : Nat) : List V := (zq236 nm w g y n a b r p q k m)
abbrev zq55 (nm : ByteArray) (w : Int) (g : Int) (y : Int) (n : Nat) (a : Int) (b : Int) (r : Int) (p : Int) (q : Int) (k : Nat) (m : Nat) : List V := (catV [lwA nm w g y n a b r p q k, .ptr 2 0, V.raw (.bool false), .slo 3 m] (anyR 4 46 (catV [.slo 3 m, iV (m : Int), iV (m : Int)] (anyR 53 17 []))))
abbrev zq97 (nm : ByteArray) (w : Int) (g : Int) (y : Int) (n : Nat) (a : Int) (b : Int) (r : Int) (p : Int) (q : Int) (k : Nat) (m : Nat) : List V := (zq239 nm w g y n a b r p q k m)
abbrev zq158 (nm : ByteArray) (w : Int) (g : Int) (y : Int) (n : Nat) (a : Int) (b : Int) (r : Int) (p : Int) (q : Int) (k : Nat) (gs : List Int) (T : Nat) (cs : List Int) (U : Nat) (m : Nat) (zs : List Int) : Prop := Meets cfx 0 53 [lwA nm w g y n a b r p q k] [bkG gs T, bkI cs U, bkW nm w g y n a b r p q k] (.slo 3 m) (zq258 gs T cs U nm w g y n a b r p q k zs)
theorem postsFit_ok (nm : ByteArray) (gs cs zs : List Int) (n k m : Nat) (T U : Nat) (w g y a b r p q : Int) (hpo : (zq198 nm w g y n a b r p q k gs T cs U m zs)) (hr : M.btw r 1 8192 = true) (hz : zs.length = m * 3) (hm : m ≤ 100) (hw : -4194304 ≤ w ∧ w ≤ 4194304) (hg : -4194304 ≤ g ∧ g ≤ 4194304) (hR0 : Runs cfx 0 4 none (.loop (loopOf cfx.P 96 0)) (pf_T nm gs cs zs n k m T U w g y a b r p q 0) (pf_H nm gs cs zs n k m T U w g y a b r p q 0) (.exit 0) (pf_T4 nm gs cs zs n k m T U w g y a b r p q m) (pf_H4 nm gs cs zs n k m T U w g y a b r p q m)) (hR1 : Runs cfx 0 4 none (.loop (loopOf cfx.P 96 1)) (pg_T nm gs cs zs n k m T U w g y a b r p q 0) (pg_H nm gs cs zs n k m T U w g y a b r p q 0) (.exit 2) (pgc_T1 nm gs cs zs n k m T U w g y a b r p q m) (pgc_H1 nm gs cs zs n k m T U w g y a b r p q m))  : Meets cfx 0 96 [lwA nm w g y n a b r p q k] [bkG gs T, bkI cs U] (V.raw (.bool true)) [bkG gs T, bkI cs U] := by
  refine Meets.post (meets_ev cfx_mixed cfx_call zz zb (n := 40) (ans := [Ans.go, Ans.ret (V.raw (.bool (M.btw r 1 8192))), zF, Ans.reth (.slo 3 m) (zq219 gs T cs U nm w g y n a b r p q k zs), Ans.loop (Ex.exit 0) (zq54 nm w g y n a b r p q k m) (zq219 gs T cs U nm w g y n a b r p q k zs), Ans.loop (Ex.exit 2) (zq55 nm w g y n a b r p q k m) (zq219 gs T cs U nm w g y n a b r p q k zs)]) (v := V.raw (.bool true)) (h' := (zq219 gs T cs U nm w g y n a b r p q k zs)) (cons := [(Ret cfx 69 [iV r, iV 1, iV 8192] (V.raw (.bool (M.btw r 1 8192)))), ((!M.btw r 1 8192) = false), ((zq158 nm w g y n a b r p q k gs T cs U m zs)), ((zq29 nm w g y n a b r p q k m gs T cs U zs)), (Runs cfx 0 4 none (.loop (loopOf cfx.P 96 1)) (zq53 nm w g y n a b r p q k m) (zq219 gs T cs U nm w g y n a b r p q k zs) (Ex.exit 2) (zq55 nm w g y n a b r p q k m) (zq219 gs T cs U nm w g y n a b r p q k zs))]) zk
    ⟨(lnBetween _ _ _), zdf, (by exact below2 (lim := 0) rfl rfl 0 1 (N := [some (.cells (ints zs) 26 (.row 3))]) hpo (mix_all _ _) (ints_all _) rfl (new_row _ _ _) rfl rfl zz), (by
      refine Runs.pre (fun b e => by cases e) (fun RT RH => ?_) (hR0)
      exact reshape2 (lim := 0) 4 (t := (zq97 nm w g y n a b r p q k m)) (h := (zq219 gs T cs U nm w g y n a b r p q k zs)) cfx_G rfl [] zk zk zdr RT RH), (by
      refine Runs.pre (fun b e => by cases e) (fun RT RH => ?_) (hR1)
      exact reshape2 (lim := 0) 4 (t := (zq53 nm w g y n a b r p q k m)) (h := (zq219 gs T cs U nm w g y n a b r p q k zs)) cfx_G rfl [] zk zk zdr RT RH), trivial⟩) zk zt0
abbrev zq56 (nm : ByteArray) (w : Int) (g : Int) (y : Int) (n : Nat) (a : Int) (b : Int) (r : Int) (p : Int) (q : Int) (k : Nat) (m : Nat) (i : Nat) : List V := (catV [lwA nm w g y n a b r p q k, .ptr 2 0, V.raw (.bool false), .slo 3 m] (anyR 4 13 (catV [.slo 3 m, iV (m : Int), iV (i : Int)] (anyR 20 50 []))))
theorem postsFit_bad1 (nm : ByteArray) (gs cs zs : List Int) (n k m : Nat) (T U : Nat) (w g y a b r p q : Int) (hpo : (zq198 nm w g y n a b r p q k gs T cs U m zs)) (hr : M.btw r 1 8192 = true) (hz : zs.length = m * 3) (hm : m ≤ 100) (hw : -4194304 ≤ w ∧ w ≤ 4194304) (hg : -4194304 ≤ g ∧ g ≤ 4194304) (i : Nat) (hR0 : Runs cfx 0 4 none (.loop (loopOf cfx.P 96 0)) (pf_T nm gs cs zs n k m T U w g y a b r p q 0) (pf_H nm gs cs zs n k m T U w g y a b r p q 0) (.ret) (pf_T1 nm gs cs zs n k m T U w g y a b r p q i) (pf_H1 nm gs cs zs n k m T U w g y a b r p q i))  : Meets cfx 0 96 [lwA nm w g y n a b r p q k] [bkG gs T, bkI cs U] (V.raw (.bool false)) [bkG gs T, bkI cs U] := by
  refine Meets.post (meets_ev cfx_mixed cfx_call zz zb (n := 40) (ans := [Ans.go, Ans.ret (V.raw (.bool (M.btw r 1 8192))), zF, Ans.reth (.slo 3 m) (zq219 gs T cs U nm w g y n a b r p q k zs), Ans.loop Ex.ret (zq56 nm w g y n a b r p q k m i) (zq219 gs T cs U nm w g y n a b r p q k zs)]) (v := V.raw (.bool false)) (h' := (zq219 gs T cs U nm w g y n a b r p q k zs)) (cons := [(Ret cfx 69 [iV r, iV 1, iV 8192] (V.raw (.bool (M.btw r 1 8192)))), ((!M.btw r 1 8192) = false), ((zq158 nm w g y n a b r p q k gs T cs U m zs)), (Runs cfx 0 4 none (.loop (loopOf cfx.P 96 0)) (zq97 nm w g y n a b r p q k m) (zq219 gs T cs U nm w g y n a b r p q k zs) (Ex.ret) (zq56 nm w g y n a b r p q k m i) (zq219 gs T cs U nm w g y n a b r p q k zs))]) zk
    ⟨(lnBetween _ _ _), zdf, (by exact below2 (lim := 0) rfl rfl 0 1 (N := [some (.cells (ints zs) 26 (.row 3))]) hpo (mix_all _ _) (ints_all _) rfl (new_row _ _ _) rfl rfl zz), (by
      refine Runs.pre (fun b e => by cases e) (fun RT RH => ?_) (hR0)
      exact reshape2 (lim := 0) 4 (t := (zq97 nm w g y n a b r p q k m)) (h := (zq219 gs T cs U nm w g y n a b r p q k zs)) cfx_G rfl [] zk zk zdr RT RH), trivial⟩) zk zt0
abbrev zq57 (nm : ByteArray) (w : Int) (g : Int) (y : Int) (n : Nat) (a : Int) (b : Int) (r : Int) (p : Int) (q : Int) (k : Nat) (m : Nat) (i : Nat) : List V := (catV [lwA nm w g y n a b r p q k, .ptr 2 0, V.raw (.bool false), .slo 3 m] (anyR 4 46 (catV [.slo 3 m, iV (m : Int), iV (i : Int)] (anyR 53 17 []))))
theorem postsFit_bad2 (nm : ByteArray) (gs cs zs : List Int) (n k m : Nat) (T U : Nat) (w g y a b r p q : Int) (hpo : (zq198 nm w g y n a b r p q k gs T cs U m zs)) (hr : M.btw r 1 8192 = true) (hz : zs.length = m * 3) (hm : m ≤ 100) (hw : -4194304 ≤ w ∧ w ≤ 4194304) (hg : -4194304 ≤ g ∧ g ≤ 4194304) (i j : Nat) (hR0 : Runs cfx 0 4 none (.loop (loopOf cfx.P 96 0)) (pf_T nm gs cs zs n k m T U w g y a b r p q 0) (pf_H nm gs cs zs n k m T U w g y a b r p q 0) (.exit 0) (pf_T4 nm gs cs zs n k m T U w g y a b r p q m) (pf_H4 nm gs cs zs n k m T U w g y a b r p q m)) (hR1 : Runs cfx 0 4 none (.loop (loopOf cfx.P 96 1)) (pg_T nm gs cs zs n k m T U w g y a b r p q 0) (pg_H nm gs cs zs n k m T U w g y a b r p q 0) (.ret) (pgb_T1 nm gs cs zs n k m T U w g y a b r p q i j) (pgb_H1 nm gs cs zs n k m T U w g y a b r p q i j))  : Meets cfx 0 96 [lwA nm w g y n a b r p q k] [bkG gs T, bkI cs U] (V.raw (.bool false)) [bkG gs T, bkI cs U] := by
  refine Meets.post (meets_ev cfx_mixed cfx_call zz zb (n := 40) (ans := [Ans.go, Ans.ret (V.raw (.bool (M.btw r 1 8192))), zF, Ans.reth (.slo 3 m) (zq219 gs T cs U nm w g y n a b r p q k zs), Ans.loop (Ex.exit 0) (zq54 nm w g y n a b r p q k m) (zq219 gs T cs U nm w g y n a b r p q k zs), Ans.loop Ex.ret (zq57 nm w g y n a b r p q k m i) (zq219 gs T cs U nm w g y n a b r p q k zs)]) (v := V.raw (.bool false)) (h' := (zq219 gs T cs U nm w g y n a b r p q k zs)) (cons := [(Ret cfx 69 [iV r, iV 1, iV 8192] (V.raw (.bool (M.btw r 1 8192)))), ((!M.btw r 1 8192) = false), ((zq158 nm w g y n a b r p q k gs T cs U m zs)), ((zq29 nm w g y n a b r p q k m gs T cs U zs)), (Runs cfx 0 4 none (.loop (loopOf cfx.P 96 1)) (zq53 nm w g y n a b r p q k m) (zq219 gs T cs U nm w g y n a b r p q k zs) (Ex.ret) (zq57 nm w g y n a b r p q k m i) (zq219 gs T cs U nm w g y n a b r p q k zs))]) zk
    ⟨(lnBetween _ _ _), zdf, (by exact below2 (lim := 0) rfl rfl 0 1 (N := [some (.cells (ints zs) 26 (.row 3))]) hpo (mix_all _ _) (ints_all _) rfl (new_row _ _ _) rfl rfl zz), (by
      refine Runs.pre (fun b e => by cases e) (fun RT RH => ?_) (hR0)
      exact reshape2 (lim := 0) 4 (t := (zq97 nm w g y n a b r p q k m)) (h := (zq219 gs T cs U nm w g y n a b r p q k zs)) cfx_G rfl [] zk zk zdr RT RH), (by
      refine Runs.pre (fun b e => by cases e) (fun RT RH => ?_) (hR1)
      exact reshape2 (lim := 0) 4 (t := (zq53 nm w g y n a b r p q k m)) (h := (zq219 gs T cs U nm w g y n a b r p q k zs)) cfx_G rfl [] zk zk zdr RT RH), trivial⟩) zk zt0
theorem postsFit_peg (hr : M.btw r 1 8192 = false)  : Meets cfx 0 96 [lwA nm w g y n a b r p q k] [bkG gs T, bkI cs U] (V.raw (.bool false)) [bkG gs T, bkI cs U] := by
  refine Meets.post (meets_ev cfx_mixed cfx_call zz zb (n := 40) (ans := [Ans.go, Ans.ret (V.raw (.bool (M.btw r 1 8192))), zT]) (v := V.raw (.bool false)) (h' := [bkG gs T, bkI cs U, bkW nm w g y n a b r p q k]) (cons := [(Ret cfx 69 [iV r, iV 1, iV 8192] (V.raw (.bool (M.btw r 1 8192)))), ((!M.btw r 1 8192) = true)]) zk
    ⟨(lnBetween _ _ _), zdf, trivial⟩) zk zt0
theorem postsFit_all (nm : ByteArray) (gs cs zs : List Int) (n k m : Nat) (T U : Nat) (w g y a b r p q : Int) (hpo : (zq198 nm w g y n a b r p q k gs T cs U m zs)) (hr : M.btw r 1 8192 = true) (hz : zs.length = m * 3) (hm : m ≤ 100) (hw : -4194304 ≤ w ∧ w ≤ 4194304) (hg : -4194304 ≤ g ∧ g ≤ 4194304) (hrad : ∀ j : Nat, j < m → 1 ≤ at' zs (j * 3 + 2) ∧ at' zs (j * 3 + 2) ≤ 8192) (hw2 : w ≤ 4194304) (hg2 : g ≤ 4194304) : Meets cfx 0 96 [lwA nm w g y n a b r p q k] [bkG gs T, bkI cs U] (.raw (.bool (M.fitsB w g zs m && M.apartB zs m))) [bkG gs T, bkI cs U] := by
  rcases pf_loop nm gs cs zs n k m T U w g y a b r p q hpo hr hz hm hw hg (fun i hi => by have := hrad i hi; omega) with ⟨e1, e2⟩ | ⟨e1, i, e2⟩
  · rw [e1, Bool.true_and]
    rcases pg_loop nm gs cs zs n k m T U w g y a b r p q hpo hr hz hm hw hg (M.fits_disc hw2 hg2 e1 hrad) with ⟨e3, e4⟩ | ⟨e3, i, j, e4⟩
    · rw [e3]; exact postsFit_ok nm gs cs zs n k m T U w g y a b r p q hpo hr hz hm hw hg e2 e4
    · rw [e3]; exact postsFit_bad2 nm gs cs zs n k m T U w g y a b r p q hpo hr hz hm hw hg i j e2 e4
  · rw [e1, Bool.false_and]
    exact postsFit_bad1 nm gs cs zs n k m T U w g y a b r p q hpo hr hz hm hw hg i e2
end Go.Proofs.Ytmelbcmfahcffaa
end
section
namespace Go.Proofs.Ytmelbcmfahcffaa
open Go Go.RowKit Go.Proofs.Ytmelbcmfahcffaa.E2
variable (nm : ByteArray) (gs cs : List Int) (n k : Nat) (T U : Nat) (w g y a b r p q : Int)
def M.sidesB (w g y : Int) : Bool := M.btw w 65536 4194304 && M.btw g 65536 4194304 && M.btw y 0 ((min w g).tdiv 4)
theorem sides0 (h1 : M.btw w 65536 4194304 = false)  : Meets cfx 0 93 [lwA nm w g y n a b r p q k] [bkG gs T, bkI cs U] (V.raw (.bool false)) [bkG gs T, bkI cs U] := by
  refine Meets.post (meets_ev cfx_mixed cfx_call zz zb (n := 40) (ans := [Ans.go, Ans.ret (V.raw (.bool (M.btw w 65536 4194304))), zF, zF, zF, zF]) (v := V.raw (.bool false)) (h' := [bkG gs T, bkI cs U, bkW nm w g y n a b r p q k]) (cons := [(Ret cfx 69 [iV w, iV 65536, iV 4194304] (V.raw (.bool (M.btw w 65536 4194304)))), (M.btw w 65536 4194304 = false), (false = false), (false = false), (false = false)]) zk
    ⟨(lnBetween _ _ _), zdf, rfl, rfl, rfl, trivial⟩) zk zt0
theorem sides1 (h1 : M.btw w 65536 4194304 = true) (h2 : M.btw g 65536 4194304 = false)  : Meets cfx 0 93 [lwA nm w g y n a b r p q k] [bkG gs T, bkI cs U] (V.raw (.bool false)) [bkG gs T, bkI cs U] := by
  refine Meets.post (meets_ev cfx_mixed cfx_call zz zb (n := 40) (ans := [Ans.go, Ans.ret (V.raw (.bool (M.btw w 65536 4194304))), zT, Ans.ret (V.raw (.bool (M.btw g 65536 4194304))), zT, zF, zF]) (v := V.raw (.bool false)) (h' := [bkG gs T, bkI cs U, bkW nm w g y n a b r p q k]) (cons := [(Ret cfx 69 [iV w, iV 65536, iV 4194304] (V.raw (.bool (M.btw w 65536 4194304)))), (M.btw w 65536 4194304 = true), (Ret cfx 69 [iV g, iV 65536, iV 4194304] (V.raw (.bool (M.btw g 65536 4194304)))), (true = true), (M.btw g 65536 4194304 = false), (false = false)]) zk
    ⟨(lnBetween _ _ _), zdf, (lnBetween _ _ _), rfl, zdf, rfl, trivial⟩) zk zt0
theorem sides2_1 (h1 : M.btw w 65536 4194304 = true) (h2 : M.btw g 65536 4194304 = true) (h3 : ¬ g < w) (hw : 65536 ≤ w ∧ w ≤ 4194304) (hg : 65536 ≤ g ∧ g ≤ 4194304) (h4 : -9000000 ≤ (if g < w then g else w).tdiv 4 ∧ (if g < w then g else w).tdiv 4 ≤ 9000000)  : Meets cfx 0 93 [lwA nm w g y n a b r p q k] [bkG gs T, bkI cs U] (V.raw (.bool (M.btw y 0 ((if g < w then g else w).tdiv 4)))) [bkG gs T, bkI cs U] := by
  refine Meets.post (meets_ev cfx_mixed cfx_call zz zb (n := 40) (ans := [Ans.go, Ans.ret (V.raw (.bool (M.btw w 65536 4194304))), zT, Ans.ret (V.raw (.bool (M.btw g 65536 4194304))), zT, zT, Ans.ret (V.raw (.bool (M.btw y 0 ((if g < w then g else w).tdiv 4)))), zT]) (v := V.raw (.bool (M.btw y 0 ((if g < w then g else w).tdiv 4)))) (h' := [bkG gs T, bkI cs U, bkW nm w g y n a b r p q k]) (cons := [(Ret cfx 69 [iV w, iV 65536, iV 4194304] (V.raw (.bool (M.btw w 65536 4194304)))), (M.btw w 65536 4194304 = true), (Ret cfx 69 [iV g, iV 65536, iV 4194304] (V.raw (.bool (M.btw g 65536 4194304)))), (true = true), (M.btw g 65536 4194304 = true), ((4 : Int) ≠ (0 : Int)), (inR IntKind.i64 ((if g < w then g else w).tdiv 4)), (Ret cfx 69 [iV y, iV 0, iV ((if g < w then g else w).tdiv 4)] (V.raw (.bool (M.btw y 0 ((if g < w then g else w).tdiv 4))))), (true = true)]) zk
    ⟨(lnBetween _ _ _), zdf, (lnBetween _ _ _), rfl, zdf, zds, inR_i64 zo zo, (lnBetween _ _ _), rfl, trivial⟩) zk zt0
theorem sides2 (h1 : M.btw w 65536 4194304 = true) (h2 : M.btw g 65536 4194304 = true) (h3 : ¬ g < w) (hw : 65536 ≤ w ∧ w ≤ 4194304) (hg : 65536 ≤ g ∧ g ≤ 4194304) (h4 : -9000000 ≤ (if g < w then g else w).tdiv 4 ∧ (if g < w then g else w).tdiv 4 ≤ 9000000) : Meets cfx 0 93 [lwA nm w g y n a b r p q k] [bkG gs T, bkI cs U] (.raw (.bool (M.btw y 0 (w.tdiv 4)))) [bkG gs T, bkI cs U] := by
  have e : (.raw (.bool (M.btw y 0 (w.tdiv 4))) : V) = V.raw (.bool (M.btw y 0 ((if g < w then g else w).tdiv 4))) := by (simp [h3])
  rw [e]
  exact sides2_1 nm gs cs n k T U w g y a b r p q h1 h2 h3 hw hg h4
theorem sides3_1 (h1 : M.btw w 65536 4194304 = true) (h2 : M.btw g 65536 4194304 = true) (h3 : g < w) (hw : 65536 ≤ w ∧ w ≤ 4194304) (hg : 65536 ≤ g ∧ g ≤ 4194304) (h4 : -9000000 ≤ (if g < w then g else w).tdiv 4 ∧ (if g < w then g else w).tdiv 4 ≤ 9000000)  : Meets cfx 0 93 [lwA nm w g y n a b r p q k] [bkG gs T, bkI cs U] (V.raw (.bool (M.btw y 0 ((if g < w then g else w).tdiv 4)))) [bkG gs T, bkI cs U] := by
  refine Meets.post (meets_ev cfx_mixed cfx_call zz zb (n := 40) (ans := [Ans.go, Ans.ret (V.raw (.bool (M.btw w 65536 4194304))), zT, Ans.ret (V.raw (.bool (M.btw g 65536 4194304))), zT, zT, Ans.ret (V.raw (.bool (M.btw y 0 ((if g < w then g else w).tdiv 4)))), zT]) (v := V.raw (.bool (M.btw y 0 ((if g < w then g else w).tdiv 4)))) (h' := [bkG gs T, bkI cs U, bkW nm w g y n a b r p q k]) (cons := [(Ret cfx 69 [iV w, iV 65536, iV 4194304] (V.raw (.bool (M.btw w 65536 4194304)))), (M.btw w 65536 4194304 = true), (Ret cfx 69 [iV g, iV 65536, iV 4194304] (V.raw (.bool (M.btw g 65536 4194304)))), (true = true), (M.btw g 65536 4194304 = true), ((4 : Int) ≠ (0 : Int)), (inR IntKind.i64 ((if g < w then g else w).tdiv 4)), (Ret cfx 69 [iV y, iV 0, iV ((if g < w then g else w).tdiv 4)] (V.raw (.bool (M.btw y 0 ((if g < w then g else w).tdiv 4))))), (true = true)]) zk
    ⟨(lnBetween _ _ _), zdf, (lnBetween _ _ _), rfl, zdf, zds, inR_i64 zo zo, (lnBetween _ _ _), rfl, trivial⟩) zk zt0
theorem sides3 (h1 : M.btw w 65536 4194304 = true) (h2 : M.btw g 65536 4194304 = true) (h3 : g < w) (hw : 65536 ≤ w ∧ w ≤ 4194304) (hg : 65536 ≤ g ∧ g ≤ 4194304) (h4 : -9000000 ≤ (if g < w then g else w).tdiv 4 ∧ (if g < w then g else w).tdiv 4 ≤ 9000000) : Meets cfx 0 93 [lwA nm w g y n a b r p q k] [bkG gs T, bkI cs U] (.raw (.bool (M.btw y 0 (g.tdiv 4)))) [bkG gs T, bkI cs U] := by
  have e : (.raw (.bool (M.btw y 0 (g.tdiv 4))) : V) = V.raw (.bool (M.btw y 0 ((if g < w then g else w).tdiv 4))) := by (simp [h3])
  rw [e]
  exact sides3_1 nm gs cs n k T U w g y a b r p q h1 h2 h3 hw hg h4
theorem lnSides : Meets cfx 0 93 [lwA nm w g y n a b r p q k] [bkG gs T, bkI cs U] (.raw (.bool (M.sidesB w g y))) [bkG gs T, bkI cs U] := by
  unfold M.sidesB
  cases h1 : M.btw w 65536 4194304 with
  | false => exact sides0 nm gs cs n k T U w g y a b r p q h1
  | true =>
  cases h2 : M.btw g 65536 4194304 with
  | false => exact sides1 nm gs cs n k T U w g y a b r p q h1 h2
  | true =>
  have hw := (M.btw_iff ..).1 h1
  have hg := (M.btw_iff ..).1 h2
  by_cases h3 : g < w
  · rw [show min w g = g by omega]
    exact sides3 nm gs cs n k T U w g y a b r p q h1 h2 h3 hw hg (by rw [if_pos h3, Int.tdiv_eq_ediv_of_nonneg (by omega)]; omega)
  · rw [show min w g = w by omega]
    exact sides2 nm gs cs n k T U w g y a b r p q h1 h2 h3 hw hg (by rw [if_neg h3, Int.tdiv_eq_ediv_of_nonneg (by omega)]; omega)
end Go.Proofs.Ytmelbcmfahcffaa
end
section
namespace Go.Proofs.Ytmelbcmfahcffaa
open Go.ChangeShapes Go.WideShapes Go.ChangeAt Go.RowKit
def M.nameC (n : Nat) : Prop := (97 ≤ n ∧ n ≤ 122) ∨ (48 ≤ n ∧ n ≤ 57)
def M.nameP (s : ByteArray) : Prop := 1 ≤ s.size ∧ s.size ≤ 20 ∧ ∀ k (h : k < s.size), M.nameC s[k].toNat
theorem M.name_step {s : ByteArray} {k : Nat} (hlt : k < s.size) (h : ∀ j (h : j < s.size), j < k → M.nameC s[j].toNat) (hc : M.nameC s[k].toNat) : ∀ j (h : j < s.size), j < k + 1 → M.nameC s[j].toNat := fun j hj hk => by
  rcases Nat.lt_or_ge j k with q | q
  · exact h j hj q
  · obtain rfl : j = k := by omega
    exact hc
set_option maxHeartbeats 4000000 in
theorem rNamed_any (s : ByteArray) (b : Bool) (w : World) (hs : s.size ≤ 100) (hb : b = true ↔ M.nameP s) :
    Calls Try.prog 87 #[.string s] w fun e w' => e = .returned (.bool b) ∧ Below w.heap.size w w' := by
  have HB := Lib.hid hb
  by_cases h1 : 1 ≤ s.size
  · by_cases h2 : s.size ≤ 20
    · have i1 : ¬ (s.size : Int) < 1 := by omega
      have i2 : ¬ 20 < (s.size : Int) := by omega
      go_enter Try.func87, Try.ntmps87
      go_wp2
      go_loopw [3] (fun i wr => ∃ k : Nat, k ≤ s.size ∧ i = .int .i64 k ∧ Below w.heap.size w wr ∧ ∀ j (h : j < s.size), j < k → M.nameC s[j].toNat) (fun i _ => s.size - (intOf i).toNat)
      case atStart => exact ⟨0, by omega, rfl, Below.refl _ _, fun j _ h => absurd h (by omega)⟩
      case round =>
        obtain ⟨k, hk, rfl, hBr, hpre⟩ := hrel
        have HP := Lib.hid hpre
        clear hpre
        by_cases hlt : k < s.size
        · have hlt1 : (k : Int) < s.size := by omega
          have HX := Lib.hid (fun h : M.nameC s[k].toNat => M.name_step hlt HP.out h)
          have HY := Lib.hid (fun h : M.nameP s => h.2.2 k hlt)
          rcases (by omega : (97 ≤ s[k].toNat ∧ s[k].toNat ≤ 122) ∨ 122 < s[k].toNat ∨ (s[k].toNat < 97 ∧ 48 ≤ s[k].toNat ∧ s[k].toNat ≤ 57) ∨ s[k].toNat < 48 ∨ (57 < s[k].toNat ∧ s[k].toNat < 97)) with ⟨c1, c2⟩ | c1 | ⟨c1, c2, c3⟩ | c1 | ⟨c1, c2⟩
          · have d1 : (97 : Int) ≤ (s[k].toNat : Int) := by omega
            have d2 : (s[k].toNat : Int) ≤ 122 := by omega
            have HC := Lib.hid (HX.out (.inl ⟨c1, c2⟩))
            clear c1 c2
            go_wp2
            exact ⟨⟨k + 1, by omega, by go_num, hBr, HC.out⟩, by simp [intOf]; omega⟩
          · have d1 : (97 : Int) ≤ (s[k].toNat : Int) := by omega
            have d2 : ¬ (s[k].toNat : Int) ≤ 122 := by omega
            have d3 : (48 : Int) ≤ (s[k].toNat : Int) := by omega
            have d4 : ¬ (s[k].toNat : Int) ≤ 57 := by omega
            have hF := Lib.hid (show b = false by cases b with | false => rfl | true => exact absurd (HY.out (HB.out.1 rfl)) (by unfold M.nameC; omega))
            clear c1
            go_wp2
            go_returns
            exact ⟨by rw [hF.out]; rfl, hBr⟩
          · have d1 : ¬ (97 : Int) ≤ (s[k].toNat : Int) := by omega
            have d3 : (48 : Int) ≤ (s[k].toNat : Int) := by omega
            have d4 : (s[k].toNat : Int) ≤ 57 := by omega
            have HC := Lib.hid (HX.out (.inr ⟨c2, c3⟩))
            clear c1 c2 c3
            go_wp2
            exact ⟨⟨k + 1, by omega, by go_num, hBr, HC.out⟩, by simp [intOf]; omega⟩
          · have d1 : ¬ (97 : Int) ≤ (s[k].toNat : Int) := by omega
            have d3 : ¬ (48 : Int) ≤ (s[k].toNat : Int) := by omega
            have hF := Lib.hid (show b = false by cases b with | false => rfl | true => exact absurd (HY.out (HB.out.1 rfl)) (by unfold M.nameC; omega))
            clear c1
            go_wp2
            go_returns
            exact ⟨by rw [hF.out]; rfl, hBr⟩
          · have d1 : ¬ (97 : Int) ≤ (s[k].toNat : Int) := by omega
            have d3 : (48 : Int) ≤ (s[k].toNat : Int) := by omega
            have d4 : ¬ (s[k].toNat : Int) ≤ 57 := by omega
            have hF := Lib.hid (show b = false by cases b with | false => rfl | true => exact absurd (HY.out (HB.out.1 rfl)) (by unfold M.nameC; omega))
            clear c1 c2
            go_wp2
            go_returns
            exact ⟨by rw [hF.out]; rfl, hBr⟩
        · have hlt1 : ¬ (k : Int) < s.size := by omega
          have hT := Lib.hid (show b = true from HB.out.2 ⟨h1, h2, fun j hj => HP.out j hj (by omega)⟩)
          clear hlt
          go_wp2
          go_returns
          exact ⟨by rw [hT.out]; rfl, hBr⟩
    · have i2 : 20 < (s.size : Int) := by omega
      have i1 : ¬ (s.size : Int) < 1 := by omega
      have hF := Lib.hid (show b = false by cases b with | false => rfl | true => exact absurd (hb.1 rfl).2.1 h2)
      clear h2 hb
      go_enter Try.func87, Try.ntmps87
      go_wp2
      go_returns
      exact ⟨by rw [hF.out]; rfl, by go_grown⟩
  · have i1 : (s.size : Int) < 1 := by omega
    have hF := Lib.hid (show b = false by cases b with | false => rfl | true => exact absurd (hb.1 rfl).1 h1)
    clear h1 hb
    go_enter Try.func87, Try.ntmps87
    go_wp2
    go_returns
    exact ⟨by rw [hF.out]; rfl, by go_grown⟩
end Go.Proofs.Ytmelbcmfahcffaa
end
section
namespace Go.Proofs.Ytmelbcmfahcffaa
open Go.ChangeShapes Go.WideShapes Go.ChangeAt Go.RowKit
set_option maxHeartbeats 4000000 in
theorem isName_any (s : ByteArray) (b : Bool) (w : World) (hs : s.size ≤ 100) (hb : b = true ↔ M.nameP s) :
    Calls Try.prog 92 #[.string s] w fun e w' => e = .returned (.bool b) ∧ Below w.heap.size w w' := by
  have HB := Lib.hid hb
  by_cases h1 : 1 ≤ s.size
  · by_cases h2 : s.size ≤ 20
    · have i1 : ¬ (s.size : Int) < 1 := by omega
      have i2 : ¬ 20 < (s.size : Int) := by omega
      go_enter Try.func92, Try.ntmps92
      go_wp2
      simp only [run_bytes_of_string w 9 135 5 s Try.underlying9 Try.underlying135 Try.underlying5]
      have hrow : ∀ j (h : j < s.size), (w.drew.alloc (.cells (bytesRow s (grownCap w s.size 0 5)) 5 ((bytesRow s (grownCap w s.size 0 5)).size, (bytesRow s (grownCap w s.size 0 5)).size + 1))).cell? ⟨w.heap.size, j, none⟩ = some (.int .u8 (s[j].toNat : Int)) := fun j h =>
        (World.cell?_alloc_mark w.drew _ _ _ j).trans (bytesRow_at s _ j h)
      have hB1 : Below w.heap.size w (w.drew.alloc (.cells (bytesRow s (grownCap w s.size 0 5)) 5 ((bytesRow s (grownCap w s.size 0 5)).size, (bytesRow s (grownCap w s.size 0 5)).size + 1))) := by go_grown
      have hz1 : (w.drew.alloc (.cells (bytesRow s (grownCap w s.size 0 5)) 5 ((bytesRow s (grownCap w s.size 0 5)).size, (bytesRow s (grownCap w s.size 0 5)).size + 1))).heap.size = w.heap.size + 1 := by simp
      generalize w.drew.alloc (.cells (bytesRow s (grownCap w s.size 0 5)) 5 ((bytesRow s (grownCap w s.size 0 5)).size, (bytesRow s (grownCap w s.size 0 5)).size + 1)) = W1 at *
      generalize grownCap w s.size 0 5 = cap at *
      have HR := Lib.hid hrow
      have HB1 := Lib.hid hB1
      clear hrow hB1
      go_wp2
      go_loopw [16] (fun i wr => ∃ k : Nat, k ≤ s.size ∧ i = .int .i64 k ∧ Below W1.heap.size W1 wr ∧ Below w.heap.size w wr ∧ ∀ j (h : j < s.size), j < k → M.nameC s[j].toNat) (fun i _ => s.size - (intOf i).toNat)
      case atStart => exact ⟨0, by omega, rfl, Below.refl _ _, HB1.out, fun j _ h => absurd h (by omega)⟩
      case round =>
        obtain ⟨k, hk, rfl, hBk, hBr, hpre⟩ := hrel
        have HBK := Lib.hid hBk
        have HP := Lib.hid hpre
        clear hpre
        by_cases hlt : k < s.size
        · have hlt1 : (k : Int) < s.size := by omega
          have HX := Lib.hid (fun h : M.nameC s[k].toNat => M.name_step hlt HP.out h)
          have HY := Lib.hid (fun h : M.nameP s => h.2.2 k hlt)
          have hcell := (hBk.cell (p := ⟨w.heap.size, k, none⟩) (by simp only []; omega)).trans (HR.out k hlt)
          clear hBk
          rcases (by omega : (97 ≤ s[k].toNat ∧ s[k].toNat ≤ 122) ∨ 122 < s[k].toNat ∨ (s[k].toNat < 97 ∧ 48 ≤ s[k].toNat ∧ s[k].toNat ≤ 57) ∨ s[k].toNat < 48 ∨ (57 < s[k].toNat ∧ s[k].toNat < 97)) with ⟨c1, c2⟩ | c1 | ⟨c1, c2, c3⟩ | c1 | ⟨c1, c2⟩
          · have d1 : ¬ (s[k].toNat : Int) < 97 := by omega
            have d2 : ¬ 122 < (s[k].toNat : Int) := by omega
            have HC := Lib.hid (HX.out (.inl ⟨c1, c2⟩))
            clear c1 c2
            go_wp2
            exact ⟨⟨k + 1, by omega, by go_num, HBK.out, hBr, HC.out⟩, by simp [intOf]; omega⟩
          · have d1 : ¬ (s[k].toNat : Int) < 97 := by omega
            have d2 : 122 < (s[k].toNat : Int) := by omega
            have d3 : ¬ (s[k].toNat : Int) < 48 := by omega
            have d4 : 57 < (s[k].toNat : Int) := by omega
            have hF := Lib.hid (show b = false by cases b with | false => rfl | true => exact absurd (HY.out (HB.out.1 rfl)) (by unfold M.nameC; omega))
            clear c1
            go_wp2
            go_returns
            exact ⟨by rw [hF.out]; rfl, hBr⟩
          · have d1 : (s[k].toNat : Int) < 97 := by omega
            have d3 : ¬ (s[k].toNat : Int) < 48 := by omega
            have d4 : ¬ 57 < (s[k].toNat : Int) := by omega
            have HC := Lib.hid (HX.out (.inr ⟨c2, c3⟩))
            clear c1 c2 c3
            go_wp2
            exact ⟨⟨k + 1, by omega, by go_num, HBK.out, hBr, HC.out⟩, by simp [intOf]; omega⟩
          · have d1 : (s[k].toNat : Int) < 97 := by omega
            have d3 : (s[k].toNat : Int) < 48 := by omega
            have hF := Lib.hid (show b = false by cases b with | false => rfl | true => exact absurd (HY.out (HB.out.1 rfl)) (by unfold M.nameC; omega))
            clear c1
            go_wp2
            go_returns
            exact ⟨by rw [hF.out]; rfl, hBr⟩
          · have d1 : (s[k].toNat : Int) < 97 := by omega
            have d3 : ¬ (s[k].toNat : Int) < 48 := by omega
            have d4 : 57 < (s[k].toNat : Int) := by omega
            have hF := Lib.hid (show b = false by cases b with | false => rfl | true => exact absurd (HY.out (HB.out.1 rfl)) (by unfold M.nameC; omega))
            clear c1 c2
            go_wp2
            go_returns
            exact ⟨by rw [hF.out]; rfl, hBr⟩
        · have hlt1 : ¬ (k : Int) < s.size := by omega
          have hT := Lib.hid (show b = true from HB.out.2 ⟨h1, h2, fun j hj => HP.out j hj (by omega)⟩)
          clear hlt
          go_wp2
          go_returns
          exact ⟨by rw [hT.out]; rfl, hBr⟩
    · have i2 : 20 < (s.size : Int) := by omega
      have i1 : ¬ (s.size : Int) < 1 := by omega
      have hF := Lib.hid (show b = false by cases b with | false => rfl | true => exact absurd (hb.1 rfl).2.1 h2)
      clear h2 hb
      go_enter Try.func92, Try.ntmps92
      go_wp2
      go_returns
      exact ⟨by rw [hF.out]; rfl, by go_grown⟩
  · have i1 : (s.size : Int) < 1 := by omega
    have hF := Lib.hid (show b = false by cases b with | false => rfl | true => exact absurd (hb.1 rfl).1 h1)
    clear h1 hb
    go_enter Try.func92, Try.ntmps92
    go_wp2
    go_returns
    exact ⟨by rw [hF.out]; rfl, by go_grown⟩
end Go.Proofs.Ytmelbcmfahcffaa
end
section
namespace Go.Proofs.Ytmelbcmfahcffaa
open Go Go.RowKit Go.Proofs.Ytmelbcmfahcffaa.E2
def M.charB (n : Nat) : Bool := (decide (97 ≤ n) && decide (n ≤ 122)) || (decide (48 ≤ n) && decide (n ≤ 57))
def M.nameB (s : ByteArray) : Bool := decide (1 ≤ s.size) && decide (s.size ≤ 20) && (List.range s.size).all fun k => if h : k < s.size then M.charB s[k].toNat else true
theorem M.nameB_iff (s : ByteArray) : M.nameB s = true ↔ M.nameP s := by
  unfold M.nameB M.nameP
  simp only [Bool.and_eq_true, decide_eq_true_eq, List.all_eq_true, List.mem_range, and_assoc]
  refine and_congr_right fun _ => and_congr_right fun _ => ⟨fun h k hk => ?_, fun h k hk => ?_⟩
  · have := h k hk
    rw [dif_pos hk] at this
    simpa [M.charB, M.nameC] using this
  · rw [dif_pos hk]
    simpa [M.charB, M.nameC] using h k hk
theorem lnIsName (s : ByteArray) (hs : s.size ≤ 100) : Ret cfx 92 [.raw (.string s)] (.raw (.bool (M.nameB s))) :=
  fn_of_calls (args := [.string s]) fun w => isName_any s _ w hs (M.nameB_iff s)
end Go.Proofs.Ytmelbcmfahcffaa
end
section
namespace Go.Proofs.Ytmelbcmfahcffaa
open Go Go.RowKit Go.Proofs.Ytmelbcmfahcffaa.E2
variable (nm : ByteArray) (gs cs : List Int) (n k : Nat) (T U : Nat) (w g y a b r p q : Int)
theorem check_many0 (h1 : n = 0)  : Meets cfx 0 52 [lwA nm w g y n a b r p q k] [bkG gs T, bkI cs U] (iV 6) [bkG gs T, bkI cs U] := by
  refine Meets.post (meets_ev cfx_mixed cfx_call zz zb (n := 40) (ans := [Ans.go, zT, zT, zT, zT, zT]) (v := (iV 6)) (h' := [bkG gs T, bkI cs U, bkW nm w g y n a b r p q k]) (cons := [(decide ((n : Int) < 1) = true), (true = true), (true = true), (true = true), (true = true)]) zk
    ⟨zdo, rfl, rfl, rfl, rfl, trivial⟩) zk zt0
theorem check_many1 (h1 : 1 ≤ n) (h2 : 12 < n) (hb : n ≤ 1000000000)  : Meets cfx 0 52 [lwA nm w g y n a b r p q k] [bkG gs T, bkI cs U] (iV 6) [bkG gs T, bkI cs U] := by
  refine Meets.post (meets_ev cfx_mixed cfx_call zz zb (n := 40) (ans := [Ans.go, zF, zF, zT, zT, zT]) (v := (iV 6)) (h' := [bkG gs T, bkI cs U, bkW nm w g y n a b r p q k]) (cons := [(decide ((n : Int) < 1) = false), (false = false), (decide (12 < (n : Int)) = true), (true = true), (true = true)]) zk
    ⟨zdo, rfl, zdo, rfl, rfl, trivial⟩) zk zt0
theorem check_many2 (h1 : 1 ≤ n) (h2 : n ≤ 12) (h3 : 256 < k) (hb : k ≤ 1000000000)  : Meets cfx 0 52 [lwA nm w g y n a b r p q k] [bkG gs T, bkI cs U] (iV 6) [bkG gs T, bkI cs U] := by
  refine Meets.post (meets_ev cfx_mixed cfx_call zz zb (n := 40) (ans := [Ans.go, zF, zF, zF, zF, zT]) (v := (iV 6)) (h' := [bkG gs T, bkI cs U, bkW nm w g y n a b r p q k]) (cons := [(decide ((n : Int) < 1) = false), (false = false), (decide (12 < (n : Int)) = false), (false = false), (decide (256 < (k : Int)) = true)]) zk
    ⟨zdo, rfl, zdo, rfl, zdo, trivial⟩) zk zt0
theorem check_name (hz : n * 5 ≤ gs.length) (hzc : k * 3 ≤ cs.length) (hn : 1 ≤ n ∧ n ≤ 12) (hk : k ≤ 256) (hnm : nm.size ≤ 100) (h1 : M.nameB nm = false)  : Meets cfx 0 52 [lwA nm w g y n a b r p q k] [bkG gs T, bkI cs U] (iV 2) [bkG gs T, bkI cs U] := by
  refine Meets.post (meets_ev cfx_mixed cfx_call zz zb (n := 40) (ans := [Ans.go, zF, zF, zF, zF, zF, Ans.ret (V.raw (.bool (M.nameB nm))), zT, zT, zT, zT, zT, zT, zT, zT, zT]) (v := (iV 2)) (h' := [bkG gs T, bkI cs U, bkW nm w g y n a b r p q k]) (cons := [(decide ((n : Int) < 1) = false), (false = false), (decide (12 < (n : Int)) = false), (false = false), (decide (256 < (k : Int)) = false), (Ret cfx 92 [V.raw (Value.string nm)] (V.raw (.bool (M.nameB nm)))), ((!M.nameB nm) = true), (true = true), (true = true), (true = true), (true = true), (true = true), (true = true), (true = true), (true = true)]) zk
    ⟨zdo, rfl, zdo, rfl, zdo, (lnIsName _ hnm), zdf, rfl, rfl, rfl, rfl, rfl, rfl, rfl, rfl, trivial⟩) zk zt0
abbrev zq170 (nm : ByteArray) (w : Int) (g : Int) (y : Int) (n : Nat) (a : Int) (b : Int) (r : Int) (p : Int) (q : Int) (k : Nat) (gs : List Int) (T : Nat) (cs : List Int) (U : Nat) : Prop := Meets cfx 0 93 [lwA nm w g y n a b r p q k] [bkG gs T, bkI cs U, bkW nm w g y n a b r p q k] (V.raw (.bool (M.sidesB w g y))) [bkG gs T, bkI cs U, bkW nm w g y n a b r p q k]
theorem check_side (hz : n * 5 ≤ gs.length) (hzc : k * 3 ≤ cs.length) (hn : 1 ≤ n ∧ n ≤ 12) (hk : k ≤ 256) (hnm : nm.size ≤ 100) (h1 : M.nameB nm = true) (h2 : M.sidesB w g y = false)  : Meets cfx 0 52 [lwA nm w g y n a b r p q k] [bkG gs T, bkI cs U] (iV 2) [bkG gs T, bkI cs U] := by
  refine Meets.post (meets_ev cfx_mixed cfx_call zz zb (n := 40) (ans := [Ans.go, zF, zF, zF, zF, zF, Ans.ret (V.raw (.bool (M.nameB nm))), zF, Ans.reth (V.raw (.bool (M.sidesB w g y))) [bkG gs T, bkI cs U, bkW nm w g y n a b r p q k], zF, zT, zT, zT, zT, zT, zT, zT]) (v := (iV 2)) (h' := [bkG gs T, bkI cs U, bkW nm w g y n a b r p q k]) (cons := [(decide ((n : Int) < 1) = false), (false = false), (decide (12 < (n : Int)) = false), (false = false), (decide (256 < (k : Int)) = false), (Ret cfx 92 [V.raw (Value.string nm)] (V.raw (.bool (M.nameB nm)))), ((!M.nameB nm) = false), ((zq170 nm w g y n a b r p q k gs T cs U)), (false = false), ((!M.sidesB w g y) = true), (true = true), (true = true), (true = true), (true = true), (true = true), (true = true)]) zk
    ⟨zdo, rfl, zdo, rfl, zdo, (lnIsName _ hnm), zdf, (by exact below2 (lim := 0) rfl rfl 0 1 (N := []) (lnSides nm gs cs n k T U w g y a b r p q) (mix_all _ _) (ints_all _) rfl (fun k X h => by simp at h) rfl rfl zz), rfl, zdf, rfl, rfl, rfl, rfl, rfl, rfl, trivial⟩) zk zt0
abbrev zq181 (n : Nat) (gs : List Int) (T : Nat) (cs : List Int) (U : Nat) (nm : ByteArray) (w : Int) (g : Int) (y : Int) (a : Int) (b : Int) (r : Int) (p : Int) (q : Int) (k : Nat) : Prop := Meets cfx 0 94 [.slo 0 n] [bkG gs T, bkI cs U, bkW nm w g y n a b r p q k] (V.raw (.bool (M.hoopsB gs n))) [bkG gs T, bkI cs U, bkW nm w g y n a b r p q k]
theorem check_hoop (hz : n * 5 ≤ gs.length) (hzc : k * 3 ≤ cs.length) (hn : 1 ≤ n ∧ n ≤ 12) (hk : k ≤ 256) (hnm : nm.size ≤ 100) (h1 : M.nameB nm = true) (h2 : M.sidesB w g y = true) (h3 : M.hoopsB gs n = false)  : Meets cfx 0 52 [lwA nm w g y n a b r p q k] [bkG gs T, bkI cs U] (iV 2) [bkG gs T, bkI cs U] := by
  refine Meets.post (meets_ev cfx_mixed cfx_call zz zb (n := 40) (ans := [Ans.go, zF, zF, zF, zF, zF, Ans.ret (V.raw (.bool (M.nameB nm))), zF, Ans.reth (V.raw (.bool (M.sidesB w g y))) [bkG gs T, bkI cs U, bkW nm w g y n a b r p q k], zF, zF, Ans.reth (V.raw (.bool (M.hoopsB gs n))) [bkG gs T, bkI cs U, bkW nm w g y n a b r p q k], zF, zT, zT, zT, zT, zT]) (v := (iV 2)) (h' := [bkG gs T, bkI cs U, bkW nm w g y n a b r p q k]) (cons := [(decide ((n : Int) < 1) = false), (false = false), (decide (12 < (n : Int)) = false), (false = false), (decide (256 < (k : Int)) = false), (Ret cfx 92 [V.raw (Value.string nm)] (V.raw (.bool (M.nameB nm)))), ((!M.nameB nm) = false), ((zq170 nm w g y n a b r p q k gs T cs U)), (false = false), ((!M.sidesB w g y) = false), ((zq181 n gs T cs U nm w g y a b r p q k)), (false = false), ((!M.hoopsB gs n) = true), (true = true), (true = true), (true = true), (true = true)]) zk
    ⟨zdo, rfl, zdo, rfl, zdo, (lnIsName _ hnm), zdf, (by exact below2 (lim := 0) rfl rfl 0 1 (N := []) (lnSides nm gs cs n k T U w g y a b r p q) (mix_all _ _) (ints_all _) rfl (fun k X h => by simp at h) rfl rfl zz), rfl, zdf, (by exact below1 (lim := 0) rfl rfl 0 (N := []) (hoopsFit_all gs n T hz zo) (mix_all _ _) rfl (fun k X h => by simp at h) rfl zz), rfl, zdf, rfl, rfl, rfl, rfl, trivial⟩) zk zt0
abbrev zq168 (nm : ByteArray) (w : Int) (g : Int) (y : Int) (n : Nat) (a : Int) (b : Int) (r : Int) (p : Int) (q : Int) (k : Nat) (gs : List Int) (T : Nat) (cs : List Int) (U : Nat) : Prop := Meets cfx 0 95 [lwA nm w g y n a b r p q k] [bkG gs T, bkI cs U, bkW nm w g y n a b r p q k] (V.raw (.bool (M.gridB cs k p q))) [bkG gs T, bkI cs U, bkW nm w g y n a b r p q k]
theorem check_grid (hz : n * 5 ≤ gs.length) (hzc : k * 3 ≤ cs.length) (hn : 1 ≤ n ∧ n ≤ 12) (hk : k ≤ 256) (hnm : nm.size ≤ 100) (h1 : M.nameB nm = true) (h2 : M.sidesB w g y = true) (h3 : M.hoopsB gs n = true) (h4 : M.gridB cs k p q = false)  : Meets cfx 0 52 [lwA nm w g y n a b r p q k] [bkG gs T, bkI cs U] (iV 2) [bkG gs T, bkI cs U] := by
  refine Meets.post (meets_ev cfx_mixed cfx_call zz zb (n := 40) (ans := [Ans.go, zF, zF, zF, zF, zF, Ans.ret (V.raw (.bool (M.nameB nm))), zF, Ans.reth (V.raw (.bool (M.sidesB w g y))) [bkG gs T, bkI cs U, bkW nm w g y n a b r p q k], zF, zF, Ans.reth (V.raw (.bool (M.hoopsB gs n))) [bkG gs T, bkI cs U, bkW nm w g y n a b r p q k], zF, zF, Ans.reth (V.raw (.bool (M.gridB cs k p q))) [bkG gs T, bkI cs U, bkW nm w g y n a b r p q k], zF, zT, zT, zT]) (v := (iV 2)) (h' := [bkG gs T, bkI cs U, bkW nm w g y n a b r p q k]) (cons := [(decide ((n : Int) < 1) = false), (false = false), (decide (12 < (n : Int)) = false), (false = false), (decide (256 < (k : Int)) = false), (Ret cfx 92 [V.raw (Value.string nm)] (V.raw (.bool (M.nameB nm)))), ((!M.nameB nm) = false), ((zq170 nm w g y n a b r p q k gs T cs U)), (false = false), ((!M.sidesB w g y) = false), ((zq181 n gs T cs U nm w g y a b r p q k)), (false = false), ((!M.hoopsB gs n) = false), ((zq168 nm w g y n a b r p q k gs T cs U)), (false = false), ((!M.gridB cs k p q) = true), (true = true), (true = true)]) zk
    ⟨zdo, rfl, zdo, rfl, zdo, (lnIsName _ hnm), zdf, (by exact below2 (lim := 0) rfl rfl 0 1 (N := []) (lnSides nm gs cs n k T U w g y a b r p q) (mix_all _ _) (ints_all _) rfl (fun k X h => by simp at h) rfl rfl zz), rfl, zdf, (by exact below1 (lim := 0) rfl rfl 0 (N := []) (hoopsFit_all gs n T hz zo) (mix_all _ _) rfl (fun k X h => by simp at h) rfl zz), rfl, zdf, (by exact below2 (lim := 0) rfl rfl 0 1 (N := []) (cellsFit_all nm gs cs n k T U w g y a b r p q hzc) (mix_all _ _) (ints_all _) rfl (fun k X h => by simp at h) rfl rfl zz), rfl, zdf, rfl, rfl, trivial⟩) zk zt0
theorem check_post_false (hz : n * 5 ≤ gs.length) (hzc : k * 3 ≤ cs.length) (hn : 1 ≤ n ∧ n ≤ 12) (hk : k ≤ 256) (hnm : nm.size ≤ 100) (PB : Bool) (hpf : Meets cfx 0 96 [lwA nm w g y n a b r p q k] [bkG gs T, bkI cs U] (.raw (.bool PB)) [bkG gs T, bkI cs U]) (h1 : M.nameB nm = true) (h2 : M.sidesB w g y = true) (h3 : M.hoopsB gs n = true) (h4 : M.gridB cs k p q = true) (h5 : PB = false)  : Meets cfx 0 52 [lwA nm w g y n a b r p q k] [bkG gs T, bkI cs U] (iV 2) [bkG gs T, bkI cs U] := by
  refine Meets.post (meets_ev cfx_mixed cfx_call zz zb (n := 40) (ans := [Ans.go, zF, zF, zF, zF, zF, Ans.ret (V.raw (.bool (M.nameB nm))), zF, Ans.reth (V.raw (.bool (M.sidesB w g y))) [bkG gs T, bkI cs U, bkW nm w g y n a b r p q k], zF, zF, Ans.reth (V.raw (.bool (M.hoopsB gs n))) [bkG gs T, bkI cs U, bkW nm w g y n a b r p q k], zF, zF, Ans.reth (V.raw (.bool (M.gridB cs k p q))) [bkG gs T, bkI cs U, bkW nm w g y n a b r p q k], zF, zF, Ans.reth (V.raw (.bool PB)) [bkG gs T, bkI cs U, bkW nm w g y n a b r p q k], zF, zT]) (v := (iV 2)) (h' := [bkG gs T, bkI cs U, bkW nm w g y n a b r p q k]) (cons := [(decide ((n : Int) < 1) = false), (false = false), (decide (12 < (n : Int)) = false), (false = false), (decide (256 < (k : Int)) = false), (Ret cfx 92 [V.raw (Value.string nm)] (V.raw (.bool (M.nameB nm)))), ((!M.nameB nm) = false), ((zq170 nm w g y n a b r p q k gs T cs U)), (false = false), ((!M.sidesB w g y) = false), ((zq181 n gs T cs U nm w g y a b r p q k)), (false = false), ((!M.hoopsB gs n) = false), ((zq168 nm w g y n a b r p q k gs T cs U)), (false = false), ((!M.gridB cs k p q) = false), (Meets cfx 0 96 [lwA nm w g y n a b r p q k] [bkG gs T, bkI cs U, bkW nm w g y n a b r p q k] (V.raw (.bool PB)) [bkG gs T, bkI cs U, bkW nm w g y n a b r p q k]), (false = false), ((!PB) = true)]) zk
    ⟨zdo, rfl, zdo, rfl, zdo, (lnIsName _ hnm), zdf, (by exact below2 (lim := 0) rfl rfl 0 1 (N := []) (lnSides nm gs cs n k T U w g y a b r p q) (mix_all _ _) (ints_all _) rfl (fun k X h => by simp at h) rfl rfl zz), rfl, zdf, (by exact below1 (lim := 0) rfl rfl 0 (N := []) (hoopsFit_all gs n T hz zo) (mix_all _ _) rfl (fun k X h => by simp at h) rfl zz), rfl, zdf, (by exact below2 (lim := 0) rfl rfl 0 1 (N := []) (cellsFit_all nm gs cs n k T U w g y a b r p q hzc) (mix_all _ _) (ints_all _) rfl (fun k X h => by simp at h) rfl rfl zz), rfl, zdf, (by exact below2 (lim := 0) rfl rfl 0 1 (N := []) (hpf) (mix_all _ _) (ints_all _) rfl (fun k X h => by simp at h) rfl rfl zz), rfl, zdf, trivial⟩) zk zt0
theorem check_post_true (hz : n * 5 ≤ gs.length) (hzc : k * 3 ≤ cs.length) (hn : 1 ≤ n ∧ n ≤ 12) (hk : k ≤ 256) (hnm : nm.size ≤ 100) (PB : Bool) (hpf : Meets cfx 0 96 [lwA nm w g y n a b r p q k] [bkG gs T, bkI cs U] (.raw (.bool PB)) [bkG gs T, bkI cs U]) (h1 : M.nameB nm = true) (h2 : M.sidesB w g y = true) (h3 : M.hoopsB gs n = true) (h4 : M.gridB cs k p q = true) (h5 : PB = true)  : Meets cfx 0 52 [lwA nm w g y n a b r p q k] [bkG gs T, bkI cs U] (iV 0) [bkG gs T, bkI cs U] := by
  refine Meets.post (meets_ev cfx_mixed cfx_call zz zb (n := 40) (ans := [Ans.go, zF, zF, zF, zF, zF, Ans.ret (V.raw (.bool (M.nameB nm))), zF, Ans.reth (V.raw (.bool (M.sidesB w g y))) [bkG gs T, bkI cs U, bkW nm w g y n a b r p q k], zF, zF, Ans.reth (V.raw (.bool (M.hoopsB gs n))) [bkG gs T, bkI cs U, bkW nm w g y n a b r p q k], zF, zF, Ans.reth (V.raw (.bool (M.gridB cs k p q))) [bkG gs T, bkI cs U, bkW nm w g y n a b r p q k], zF, zF, Ans.reth (V.raw (.bool PB)) [bkG gs T, bkI cs U, bkW nm w g y n a b r p q k], zF, zF]) (v := (iV 0)) (h' := [bkG gs T, bkI cs U, bkW nm w g y n a b r p q k]) (cons := [(decide ((n : Int) < 1) = false), (false = false), (decide (12 < (n : Int)) = false), (false = false), (decide (256 < (k : Int)) = false), (Ret cfx 92 [V.raw (Value.string nm)] (V.raw (.bool (M.nameB nm)))), ((!M.nameB nm) = false), ((zq170 nm w g y n a b r p q k gs T cs U)), (false = false), ((!M.sidesB w g y) = false), ((zq181 n gs T cs U nm w g y a b r p q k)), (false = false), ((!M.hoopsB gs n) = false), ((zq168 nm w g y n a b r p q k gs T cs U)), (false = false), ((!M.gridB cs k p q) = false), (Meets cfx 0 96 [lwA nm w g y n a b r p q k] [bkG gs T, bkI cs U, bkW nm w g y n a b r p q k] (V.raw (.bool PB)) [bkG gs T, bkI cs U, bkW nm w g y n a b r p q k]), (false = false), ((!PB) = false)]) zk
    ⟨zdo, rfl, zdo, rfl, zdo, (lnIsName _ hnm), zdf, (by exact below2 (lim := 0) rfl rfl 0 1 (N := []) (lnSides nm gs cs n k T U w g y a b r p q) (mix_all _ _) (ints_all _) rfl (fun k X h => by simp at h) rfl rfl zz), rfl, zdf, (by exact below1 (lim := 0) rfl rfl 0 (N := []) (hoopsFit_all gs n T hz zo) (mix_all _ _) rfl (fun k X h => by simp at h) rfl zz), rfl, zdf, (by exact below2 (lim := 0) rfl rfl 0 1 (N := []) (cellsFit_all nm gs cs n k T U w g y a b r p q hzc) (mix_all _ _) (ints_all _) rfl (fun k X h => by simp at h) rfl rfl zz), rfl, zdf, (by exact below2 (lim := 0) rfl rfl 0 1 (N := []) (hpf) (mix_all _ _) (ints_all _) rfl (fun k X h => by simp at h) rfl rfl zz), rfl, zdf, trivial⟩) zk zt0
end Go.Proofs.Ytmelbcmfahcffaa
end
section
namespace Go.Proofs.Ytmelbcmfahcffaa
open Go Go.RowKit Go.Proofs.Ytmelbcmfahcffaa.E2
variable (nm : ByteArray) (gs cs : List Int) (n k : Nat) (T U : Nat) (w g y a b r p q : Int)
def M.rowP (gs : List Int) (n : Nat) (a b r : Int) : List Int := tab (n * 6) (M.postF gs) ++ [a, b, r]
def M.postsB (gs : List Int) (n : Nat) (w g a b r : Int) : Bool := M.btw r 1 8192 && (M.fitsB w g (M.rowP gs n a b r) (2 * n + 1) && M.apartB (M.rowP gs n a b r) (2 * n + 1))
theorem M.rowP_len (gs : List Int) (n : Nat) (a b r : Int) : (M.rowP gs n a b r).length = (2 * n + 1) * 3 := by
  simp [M.rowP, tab_len]; omega
theorem M.rowP_left {gs : List Int} {n : Nat} {a b r : Int} {j : Nat} (h : j < n * 6) : at' (M.rowP gs n a b r) j = M.postF gs j := by
  rw [← at_tab (f := M.postF gs) h]
  unfold M.rowP at'
  rw [List.getD_eq_getElem?_getD, List.getD_eq_getElem?_getD, List.getElem?_append_left (by rw [tab_len]; exact h)]
theorem M.rowP_right {gs : List Int} {n : Nat} {a b r : Int} (j : Nat) : at' (M.rowP gs n a b r) (n * 6 + j) = at' [a, b, r] j := by
  unfold M.rowP at'
  rw [List.getD_eq_getElem?_getD, List.getD_eq_getElem?_getD, List.getElem?_append_right (by rw [tab_len]; omega), tab_len, Nat.add_sub_cancel_left]
theorem M.rowP_rad {gs : List Int} {n : Nat} {a b r : Int} (hr : M.btw r 1 8192 = true) (hh : M.hoopsB gs n = true) : ∀ j : Nat, j < 2 * n + 1 → 1 ≤ at' (M.rowP gs n a b r) (j * 3 + 2) ∧ at' (M.rowP gs n a b r) (j * 3 + 2) ≤ 8192 := fun j hj => by
  by_cases h : j < 2 * n
  · rw [M.rowP_left (by omega)]
    have h6 := (M.hoop_facts (all_range hh ((j * 3 + 2) / 6) zo)).2.2.2.2
    unfold M.postF
    rw [if_neg (by omega), if_neg (by omega), if_neg (by omega), if_neg (by omega)]
    exact h6
  · rw [show j * 3 + 2 = n * 6 + 2 by omega, M.rowP_right]
    exact M.btw_iff.1 hr
theorem lnPosts (hz : n * 5 ≤ gs.length) (hn : n ≤ 20) (hg : M.hoopsB gs n = true) : Meets cfx 0 53 [lwA nm w g y n a b r p q k] [bkG gs T, bkI cs U] (.slo 2 (2 * n + 1)) ([bkG gs T, bkI cs U, some (.cells (ints (M.rowP gs n a b r)) 26 (.row 3))]) :=
  posts_ok nm gs cs n k T U w g y a b r p q hz hn (po_loop nm gs cs n k T U w g y a b r p q hz hn hg)
theorem rnPosts (hz : n * 5 ≤ gs.length) (hn : n ≤ 20) (hg : M.hoopsB gs n = true) : Meets cfx 0 54 [lwA nm w g y n a b r p q k] [bkG gs T, bkI cs U] (.slo 2 (2 * n + 1)) ([bkG gs T, bkI cs U, some (.cells (ints (M.rowP gs n a b r)) 26 (.row 3))]) :=
  rposts_ok nm gs cs n k T U w g y a b r p q hz hn (rpo_loop nm gs cs n k T U w g y a b r p q hz hn hg)
theorem lnPostsFit (hz : n * 5 ≤ gs.length) (hn : n ≤ 20) (hg : M.hoopsB gs n = true) (hs : M.sidesB w g y = true) : Meets cfx 0 96 [lwA nm w g y n a b r p q k] [bkG gs T, bkI cs U] (.raw (.bool (M.postsB gs n w g a b r))) [bkG gs T, bkI cs U] := by
  unfold M.postsB
  cases hr : M.btw r 1 8192 with
  | false => exact postsFit_peg nm gs cs n k T U w g y a b r p q hr
  | true =>
  rw [Bool.true_and]
  simp only [M.sidesB, Bool.and_eq_true, M.btw_iff] at hs
  have hl := M.rowP_len gs n a b r
  exact postsFit_all nm gs cs (M.rowP gs n a b r) n k (2 * n + 1) T U w g y a b r p q (lnPosts nm gs cs n k T U w g y a b r p q hz hn hg) hr hl zo zo zo (M.rowP_rad hr hg) zo zo
def M.lawnB (nm : ByteArray) (gs cs : List Int) (n k : Nat) (w g y a b r p q : Int) : Bool := M.nameB nm && (M.sidesB w g y && (M.hoopsB gs n && (M.gridB cs k p q && M.postsB gs n w g a b r)))
def M.lawnE (nm : ByteArray) (gs cs : List Int) (n k : Nat) (w g y a b r p q : Int) : Int := if n = 0 ∨ 12 < n ∨ 256 < k then 6 else if M.lawnB nm gs cs n k w g y a b r p q = true then 0 else 2
theorem lnCheck (hz : n * 5 ≤ gs.length) (hzc : k * 3 ≤ cs.length) (hn : n ≤ 20) (hk : k ≤ 300) (hnm : nm.size ≤ 100) : Meets cfx 0 52 [lwA nm w g y n a b r p q k] [bkG gs T, bkI cs U] (.raw (.int .i64 (M.lawnE nm gs cs n k w g y a b r p q))) [bkG gs T, bkI cs U] := by
  unfold M.lawnE
  by_cases h0 : n = 0
  · rw [if_pos (.inl h0)]; exact check_many0 nm gs cs n k T U w g y a b r p q h0
  by_cases h1 : 12 < n
  · rw [if_pos (.inr (.inl h1))]; exact check_many1 nm gs cs n k T U w g y a b r p q (by omega) h1 (by omega)
  by_cases h2 : 256 < k
  · rw [if_pos (.inr (.inr h2))]; exact check_many2 nm gs cs n k T U w g y a b r p q (by omega) (by omega) h2 (by omega)
  rw [if_neg (by omega)]
  unfold M.lawnB
  have hn' : 1 ≤ n ∧ n ≤ 12 := by omega
  have hk' : k ≤ 256 := by omega
  cases e1 : M.nameB nm with
  | false => exact check_name nm gs cs n k T U w g y a b r p q hz hzc hn' hk' hnm e1
  | true =>
  cases e2 : M.sidesB w g y with
  | false => exact check_side nm gs cs n k T U w g y a b r p q hz hzc hn' hk' hnm e1 e2
  | true =>
  cases e3 : M.hoopsB gs n with
  | false => exact check_hoop nm gs cs n k T U w g y a b r p q hz hzc hn' hk' hnm e1 e2 e3
  | true =>
  cases e4 : M.gridB cs k p q with
  | false => exact check_grid nm gs cs n k T U w g y a b r p q hz hzc hn' hk' hnm e1 e2 e3 e4
  | true =>
  have hp := lnPostsFit nm gs cs n k T U w g y a b r p q hz hn e3 e2
  cases e5 : M.postsB gs n w g a b r with
  | false => exact check_post_false nm gs cs n k T U w g y a b r p q hz hzc hn' hk' hnm _ hp e1 e2 e3 e4 e5
  | true => exact check_post_true nm gs cs n k T U w g y a b r p q hz hzc hn' hk' hnm _ hp e1 e2 e3 e4 e5
end Go.Proofs.Ytmelbcmfahcffaa
end
section
namespace Go.Proofs.Ytmelbcmfahcffaa
open Go Go.RowKit Go.Proofs.Ytmelbcmfahcffaa.E2
variable (nm : ByteArray) (gs cs : List Int) (n k : Nat) (T U : Nat) (w g y a b r p q : Int)
theorem lnNamed (s : ByteArray) (hs : s.size ≤ 100) : Ret cfx 87 [.raw (.string s)] (.raw (.bool (M.nameB s))) :=
  fn_of_calls (args := [.string s]) fun w => rNamed_any s _ w hs (M.nameB_iff s)
theorem M.rowP_ok {gs : List Int} {n : Nat} {a b r : Int} (hh : M.hoopsB gs n = true) (ha : 0 ≤ a ∧ a ≤ 4194304) (hb : 0 ≤ b ∧ b ≤ 4194304) : ∀ j : Nat, j < 2 * n + 1 → M.okP (at' (M.rowP gs n a b r) (j * 3)) (at' (M.rowP gs n a b r) (j * 3 + 1)) := fun j hj => by
  by_cases h : j < 2 * n
  · rw [M.rowP_left (by omega), M.rowP_left (by omega)]
    have hf := M.hoop_facts (all_range hh (j / 2) zo)
    obtain ⟨h1, h2, h3, h4, h5⟩ := hf
    have e0 : j * 3 / 6 = j / 2 := by omega
    have e1 : (j * 3 + 1) / 6 = j / 2 := by omega
    have hd : 0 ≤ M.hoopD gs (j / 2) ∧ M.hoopD gs (j / 2) ≤ 24576 := by unfold M.hoopD; omega
    have wa : ∀ (b : Bool) (x d : Int), M.wA b x d = x ∨ M.wA b x d = x - d := fun b x d => by unfold M.wA; split <;> simp
    have wb : ∀ (b : Bool) (x d : Int), M.wB b x d = x ∨ M.wB b x d = x + d := fun b x d => by unfold M.wB; split <;> simp
    unfold M.okP
    rcases (by omega : j * 3 % 6 = 0 ∨ j * 3 % 6 = 3) with h6 | h6
    · have E0 : M.postF gs (j * 3) = M.wA (nz gs (j / 2 * 5 + 4)) (at' gs (j / 2 * 5)) (M.hoopD gs (j / 2)) := by unfold M.postF; rw [if_pos h6, e0]
      have E1 : M.postF gs (j * 3 + 1) = M.wA (!nz gs (j / 2 * 5 + 4)) (at' gs (j / 2 * 5 + 1)) (M.hoopD gs (j / 2)) := by unfold M.postF; rw [if_neg (by omega), if_pos (by omega), e1]
      rw [E0, E1]
      have k1 := wa (nz gs (j / 2 * 5 + 4)) (at' gs (j / 2 * 5)) (M.hoopD gs (j / 2))
      have k2 := wa (!nz gs (j / 2 * 5 + 4)) (at' gs (j / 2 * 5 + 1)) (M.hoopD gs (j / 2))
      omega
    · have E0 : M.postF gs (j * 3) = M.wB (nz gs (j / 2 * 5 + 4)) (at' gs (j / 2 * 5)) (M.hoopD gs (j / 2)) := by unfold M.postF; rw [if_neg (by omega), if_neg (by omega), if_pos h6, e0]
      have E1 : M.postF gs (j * 3 + 1) = M.wB (!nz gs (j / 2 * 5 + 4)) (at' gs (j / 2 * 5 + 1)) (M.hoopD gs (j / 2)) := by unfold M.postF; rw [if_neg (by omega), if_neg (by omega), if_neg (by omega), if_pos (by omega), e1]
      rw [E0, E1]
      have k1 := wb (nz gs (j / 2 * 5 + 4)) (at' gs (j / 2 * 5)) (M.hoopD gs (j / 2))
      have k2 := wb (!nz gs (j / 2 * 5 + 4)) (at' gs (j / 2 * 5 + 1)) (M.hoopD gs (j / 2))
      omega
  · rw [show j * 3 = n * 6 + 0 by omega, show n * 6 + 0 + 1 = n * 6 + 1 by omega, M.rowP_right, M.rowP_right]
    show M.okP a b
    unfold M.okP
    omega
theorem M.posts_off {gs : List Int} {n : Nat} {w g a b r : Int} (hr : M.btw r 1 8192 = true) (hw : w ≤ 4194304) (hg : g ≤ 4194304) (h : M.btw a 0 4194304 = false ∨ M.btw b 0 4194304 = false) : M.fitsB w g (M.rowP gs n a b r) (2 * n + 1) = false := by
  cases hc : M.fitsB w g (M.rowP gs n a b r) (2 * n + 1) with
  | false => rfl
  | true =>
    exfalso
    have h1 := all_range hc (2 * n) zo
    unfold M.fitZ at h1
    rw [show 2 * n * 3 = n * 6 + 0 by omega, show n * 6 + 0 + 1 = n * 6 + 1 by omega, show n * 6 + 0 + 2 = n * 6 + 2 by omega, M.rowP_right, M.rowP_right, M.rowP_right] at h1
    have h2 : (M.btw a r (w - r) && M.btw b r (g - r)) = true := h1
    rw [Bool.and_eq_true, M.btw_iff, M.btw_iff] at h2
    rw [M.btw_iff] at hr
    rcases h with h | h
    · have : M.btw a 0 4194304 = true := M.btw_iff.2 zo
      rw [h] at this; cases this
    · have : M.btw b 0 4194304 = true := M.btw_iff.2 zo
      rw [h] at this; cases this
theorem M.sides_eq (w g y : Int) : M.sidesB w g y = (M.btw w 65536 4194304 && M.btw g 65536 4194304 && M.btw y 0 ((if g < w then g else w).tdiv 4)) := by
  unfold M.sidesB
  have : min w g = if g < w then g else w := by
    by_cases h : g < w
    · rw [if_pos h]; omega
    · rw [if_neg h]; omega
  rw [this]
theorem rnCheck (hz : n * 5 ≤ gs.length) (hzc : k * 3 ≤ cs.length) (hn : n ≤ 20) (hk : k ≤ 300) (hnm : nm.size ≤ 100) : Meets cfx 0 45 [lwA nm w g y n a b r p q k] [bkG gs T, bkI cs U] (.raw (.int .i64 (M.lawnE nm gs cs n k w g y a b r p q))) [bkG gs T, bkI cs U] := by
  unfold M.lawnE
  by_cases h0 : n = 0
  · rw [if_pos (.inl h0)]; exact rk_many0 nm gs cs n k T U w g y a b r p q h0
  by_cases h1 : 12 < n
  · rw [if_pos (.inr (.inl h1))]; exact rk_many1 nm gs cs n k T U w g y a b r p q (by omega) h1 (by omega)
  by_cases h2 : 256 < k
  · rw [if_pos (.inr (.inr h2))]; exact rk_many2 nm gs cs n k T U w g y a b r p q (by omega) (by omega) h2 (by omega)
  rw [if_neg (by omega)]
  unfold M.lawnB
  have hn1 : ¬ (n : Int) < 1 := by omega
  have hn2 : ¬ 12 < n := by omega
  have hk : ¬ 256 < k := by omega
  have N := lnNamed nm hnm
  cases e1 : M.nameB nm with
  | false => rw [e1] at N; exact rk_name nm gs cs n k T U w g y a b r p q hn1 hn2 hk N
  | true =>
  rw [e1] at N
  rw [M.sides_eq]
  cases s1 : M.btw w 65536 4194304 with
  | false => exact rk_side1 nm gs cs n k T U w g y a b r p q hn1 hn2 hk N s1
  | true =>
  cases s2 : M.btw g 65536 4194304 with
  | false => exact rk_side2 nm gs cs n k T U w g y a b r p q hn1 hn2 hk N s1 s2
  | true =>
  cases s3 : M.btw y 0 ((if g < w then g else w).tdiv 4) with
  | false => exact rk_side3 nm gs cs n k T U w g y a b r p q hn1 hn2 hk N s1 s2 s3
  | true =>
  rcases rck_loop nm gs cs n k T U w g y a b r p q hn1 hn2 hk hz N s1 s2 s3 with ⟨e3, R0⟩ | ⟨e3, i, R0⟩
  case inr => rw [e3]; exact rk_hoop nm gs cs n k T U w g y a b r p q hn1 hn2 hk hz N s1 s2 s3 i R0
  rw [e3]
  have hws := M.btw_iff.1 s1
  have hgs := M.btw_iff.1 s2
  unfold M.postsB
  cases hr : M.btw r 1 8192 with
  | false => rw [Bool.false_and, Bool.and_false]; exact rk_peg1 nm gs cs n k T U w g y a b r p q hn1 hn2 hk hz N s1 s2 s3 R0 hr
  | true =>
  cases ha : M.btw a 0 4194304 with
  | false => rw [M.posts_off hr (by omega) (by omega) (.inl ha), Bool.false_and, Bool.and_false, Bool.and_false]; exact rk_peg2 nm gs cs n k T U w g y a b r p q hn1 hn2 hk hz N s1 s2 s3 R0 hr ha
  | true =>
  cases hb : M.btw b 0 4194304 with
  | false => rw [M.posts_off hr (by omega) (by omega) (.inr hb), Bool.false_and, Bool.and_false, Bool.and_false]; exact rk_peg3 nm gs cs n k T U w g y a b r p q hn1 hn2 hk hz N s1 s2 s3 R0 hr ha hb
  | true =>
  unfold M.gridB
  by_cases p1 : p < 1
  · rw [show decide (1 ≤ p) = false from decide_eq_false (by omega)]; exact rk_grid1 nm gs cs n k T U w g y a b r p q hn1 hn2 hk hz N s1 s2 s3 R0 hr ha hb p1
  rw [show decide (1 ≤ p) = true from decide_eq_true (by omega)]
  by_cases p2 : 16 < p
  · rw [show decide (p ≤ 16) = false from decide_eq_false (by omega)]; exact rk_grid2 nm gs cs n k T U w g y a b r p q hn1 hn2 hk hz N s1 s2 s3 R0 hr ha hb p1 p2
  rw [show decide (p ≤ 16) = true from decide_eq_true (by omega)]
  by_cases q1 : q < 1
  · rw [show decide (1 ≤ q) = false from decide_eq_false (by omega)]; exact rk_grid3 nm gs cs n k T U w g y a b r p q hn1 hn2 hk hz N s1 s2 s3 R0 hr ha hb p1 p2 q1
  rw [show decide (1 ≤ q) = true from decide_eq_true (by omega)]
  by_cases q2 : 16 < q
  · rw [show decide (q ≤ 16) = false from decide_eq_false (by omega)]; exact rk_grid4 nm gs cs n k T U w g y a b r p q hn1 hn2 hk hz N s1 s2 s3 R0 hr ha hb p1 p2 q1 q2
  rw [show decide (q ≤ 16) = true from decide_eq_true (by omega)]
  have hpq : 0 ≤ p * q ∧ p * q ≤ 256 := by
    have := M.mul_bd p q 16 16 zo zo zo zo
    exact ⟨Int.mul_nonneg zo zo, by omega⟩
  by_cases hkk : (k : Int) = p * q
  case neg => rw [show decide ((k : Int) = p * q) = false from decide_eq_false hkk]; exact rk_grid5 nm gs cs n k T U w g y a b r p q hn1 hn2 hk hz N s1 s2 s3 R0 hr ha hb p1 p2 q1 q2 hpq hkk
  rw [show decide ((k : Int) = p * q) = true from decide_eq_true hkk]
  rcases rcl_loop nm gs cs n k T U w g y a b r p q hn1 hn2 hk hz N s1 s2 s3 hzc hr ha hb p1 p2 q1 q2 hpq hkk R0 with ⟨e4, R1⟩ | ⟨e4, i, R1⟩
  case inr => rw [e4]; exact rk_cell nm gs cs n k T U w g y a b r p q hn1 hn2 hk hz N s1 s2 s3 hzc hr ha hb p1 p2 q1 q2 hpq hkk i R0 R1
  rw [e4]
  have hp := rnPosts nm gs cs n k T U w g y a b r p q hz hn e3
  have hl := M.rowP_len gs n a b r
  have hm : 2 * n + 1 ≤ 100 := by omega
  have hwg : (-4194304 ≤ w ∧ w ≤ 4194304) ∧ (-4194304 ≤ g ∧ g ≤ 4194304) := by omega
  have hrad := M.rowP_rad (a := a) (b := b) hr e3
  rw [← M.postC_eq]
  rcases rpg_loop nm gs cs n k T U w g y a b r p q (M.rowP gs n a b r) (2 * n + 1) hn1 hn2 hk hz N s1 s2 s3 hzc hr ha hb p1 p2 q1 q2 hpq hkk R0 R1 hp hl hm hwg (M.rowP_ok e3 (M.btw_iff.1 ha) (M.btw_iff.1 hb)) hrad with ⟨e5, R2⟩ | ⟨e5, t, h, hB, R2⟩
  · rw [e5]; exact rk_ok nm gs cs n k T U w g y a b r p q (M.rowP gs n a b r) (2 * n + 1) hn1 hn2 hk hz N s1 s2 s3 hzc hr ha hb p1 p2 q1 q2 hpq hkk R0 R1 hp hl hm hwg R2
  · rw [e5]
    rcases hB with ⟨i, rfl, rfl⟩ | ⟨i, rfl, rfl⟩ | ⟨i, j, rfl, rfl⟩
    · exact rk_fitx nm gs cs n k T U w g y a b r p q (M.rowP gs n a b r) (2 * n + 1) hn1 hn2 hk hz N s1 s2 s3 hzc hr ha hb p1 p2 q1 q2 hpq hkk R0 R1 hp hl hm hwg i R2
    · exact rk_fity nm gs cs n k T U w g y a b r p q (M.rowP gs n a b r) (2 * n + 1) hn1 hn2 hk hz N s1 s2 s3 hzc hr ha hb p1 p2 q1 q2 hpq hkk R0 R1 hp hl hm hwg i R2
    · exact rk_apart nm gs cs n k T U w g y a b r p q (M.rowP gs n a b r) (2 * n + 1) hn1 hn2 hk hz N s1 s2 s3 hzc hr ha hb p1 p2 q1 q2 hpq hkk R0 R1 hp hl hm hwg i j R2
end Go.Proofs.Ytmelbcmfahcffaa
end
section
namespace Go.Proofs.Ytmelbcmfahcffaa
open Go Go.RowKit Go.Proofs.Ytmelbcmfahcffaa.E2
variable (nm : ByteArray) (gs cs : List Int) (n k : Nat) (T U : Nat) (w g y a b r p q : Int)
theorem lnStand_ok_1 (E : Int) (hC : (zq220 nm w g y n a b r p q k gs T cs U E)) (h : Int) (fw : Bool) (u v s : Int) (hE : E = 0) (hL : 0 ≤ h) (hG : h < ↑n) (hP : M.ptE u v = 0) (hS : M.radE s = 0) (hz : n * 5 ≤ gs.length) (hn : n ≤ 20) (hH : (0 ≤ at' gs (h.toNat * 5) ∧ at' gs (h.toNat * 5) ≤ 4194304) ∧ (0 ≤ at' gs (h.toNat * 5 + 1) ∧ at' gs (h.toNat * 5 + 1) ≤ 4194304) ∧ (2 ≤ at' gs (h.toNat * 5 + 2) ∧ at' gs (h.toNat * 5 + 2) ≤ 32768) ∧ (0 ≤ (at' gs (h.toNat * 5 + 2)).tdiv 2 ∧ (at' gs (h.toNat * 5 + 2)).tdiv 2 ≤ 16384) ∧ (1 ≤ at' gs (h.toNat * 5 + 3) ∧ at' gs (h.toNat * 5 + 3) ≤ 8192)) (hP2 : (-4194304 ≤ u ∧ u ≤ 4194304) ∧ (-4194304 ≤ v ∧ v ≤ 4194304)) (hS2 : 1 ≤ s ∧ s ≤ 16384) (f0 : (at' gs (h.toNat * 5 + 2)).tdiv 2 ≤ if -M.pick (!nz gs (h.toNat * 5 + 4)) (u - at' gs (h.toNat * 5)) (v - at' gs (h.toNat * 5 + 1)) > M.pick (!nz gs (h.toNat * 5 + 4)) (u - at' gs (h.toNat * 5)) (v - at' gs (h.toNat * 5 + 1)) then -M.pick (!nz gs (h.toNat * 5 + 4)) (u - at' gs (h.toNat * 5)) (v - at' gs (h.toNat * 5 + 1)) else M.pick (!nz gs (h.toNat * 5 + 4)) (u - at' gs (h.toNat * 5)) (v - at' gs (h.toNat * 5 + 1))) : Meets cfx 0 37 [lwA nm w g y n a b r p q k, .raw (.int .i64 h), .raw (.bool fw), .raw (.agg #[.int .i64 u, .int .i64 v]), .raw (.int .i64 s)] [bkG gs T, bkI cs U] (V.raw (.tuple { toList := [.int .i64 0, .int .i64 0] })) [bkG gs T, bkI cs U] := by
  have k1 := M.pick_or (nz gs (h.toNat * 5 + 4)) (u - at' gs (h.toNat * 5)) (v - at' gs (h.toNat * 5 + 1))
  have k2 := M.pick_or (!nz gs (h.toNat * 5 + 4)) (u - at' gs (h.toNat * 5)) (v - at' gs (h.toNat * 5 + 1))
  have k3 := M.pick_or fw (M.pick (nz gs (h.toNat * 5 + 4)) (u - at' gs (h.toNat * 5)) (v - at' gs (h.toNat * 5 + 1))) (-(M.pick (nz gs (h.toNat * 5 + 4)) (u - at' gs (h.toNat * 5)) (v - at' gs (h.toNat * 5 + 1))))
  refine Meets.post (meets_ev cfx_mixed cfx_call zz zb (n := 40) (ans := [Ans.go, Ans.olds [], Ans.reth (iV E) [bkG gs T, bkI cs U, some (.cells (lwC nm w g y n a b r p q k) 29 .ro), some (.cells [iV u, iV v] 24 .ro)], Ans.go, zF, zF, zF, Ans.ret (iV (M.ptE u v)), Ans.ret (iV (M.radE s)), Ans.go, zT, zF, zT, zF, zT, zF, zT, zF, zF, zF, Ans.val 0 (V.raw (.agg { toList := [.int .i64 (at' gs (h.toNat * 5)), .int .i64 (at' gs (h.toNat * 5 + 1)), .int .i64 (at' gs (h.toNat * 5 + 2)), .int .i64 (at' gs (h.toNat * 5 + 3)), .bool (nz gs (h.toNat * 5 + 4))] })), Ans.olds [], Ans.ret (iV (M.pick (nz gs (h.toNat * 5 + 4)) (u - at' gs (h.toNat * 5)) (v - at' gs (h.toNat * 5 + 1)))), Ans.ret (iV (M.pick (!nz gs (h.toNat * 5 + 4)) (u - at' gs (h.toNat * 5)) (v - at' gs (h.toNat * 5 + 1)))), zT]) (v := V.raw (.tuple { toList := [.int .i64 0, .int .i64 0] })) (h' := [bkG gs T, bkI cs U, bkW nm w g y n a b r p q k, bkP u v, bkW nm w g y n a b r p q k, some (.cells [iV E, iV 0, iV (M.ptE u v), iV (M.radE s)] 33 (.row 1)), some (.cells [iV (at' gs (h.toNat * 5)), iV (at' gs (h.toNat * 5 + 1)), iV (at' gs (h.toNat * 5 + 2)), iV (at' gs (h.toNat * 5 + 3)), V.raw (.bool (nz gs (h.toNat * 5 + 4)))] 71 .rw), some (.cells [iV (u - at' gs (h.toNat * 5)), iV (v - at' gs (h.toNat * 5 + 1))] 112 .rw)]) (cons := [(Meets cfx 0 52 [lwA nm w g y n a b r p q k] [bkG gs T, bkI cs U, some (.cells (lwC nm w g y n a b r p q k) 29 .ro), some (.cells [iV u, iV v] 24 .ro)] (iV E) [bkG gs T, bkI cs U, some (.cells (lwC nm w g y n a b r p q k) 29 .ro), some (.cells [iV u, iV v] 24 .ro)]), (decide (h < 0) = false), (false = false), (decide ((n : Int) ≤ h) = false), (Ret cfx 56 [V.raw (.agg { toList := [.int .i64 u, .int .i64 v] })] (iV (M.ptE u v))), (Ret cfx 80 [iV s] (iV (M.radE s))), (4 ≤ 9223372036854775807), (true = true), ((0 : Int) ≤ (0 : Int) ∧ (0 : Int) < (4 : Int)), ((!decide (E = 0)) = false), (inR IntKind.i64 1), (true = true), ((0 : Int) ≤ (1 : Int) ∧ (1 : Int) < (4 : Int)), (false = false), (inR IntKind.i64 2), (true = true), ((0 : Int) ≤ (2 : Int) ∧ (2 : Int) < (4 : Int)), ((!decide (M.ptE u v = 0)) = false), (inR IntKind.i64 3), (true = true), ((0 : Int) ≤ (3 : Int) ∧ (3 : Int) < (4 : Int)), ((!decide (M.radE s = 0)) = false), (inR IntKind.i64 4), (false = false), (false = false), (0 ≤ h ∧ h < (n : Int)), (loadRow cfx 71 (mix [false, false, false, false, true] gs) (h.toNat * 5) = some (V.raw (.agg { toList := [.int .i64 (at' gs (h.toNat * 5)), .int .i64 (at' gs (h.toNat * 5 + 1)), .int .i64 (at' gs (h.toNat * 5 + 2)), .int .i64 (at' gs (h.toNat * 5 + 3)), .bool (nz gs (h.toNat * 5 + 4))] }))), (inR IntKind.i64 (u - at' gs (h.toNat * 5))), (inR IntKind.i64 (v - at' gs (h.toNat * 5 + 1))), (Ret cfx 82 [V.raw (.agg { toList := [.int .i64 (u - at' gs (h.toNat * 5)), .int .i64 (v - at' gs (h.toNat * 5 + 1))] }), V.raw (.bool (nz gs (h.toNat * 5 + 4)))] (iV (M.pick (nz gs (h.toNat * 5 + 4)) (u - at' gs (h.toNat * 5)) (v - at' gs (h.toNat * 5 + 1))))), (Ret cfx 82 [V.raw (.agg { toList := [.int .i64 (u - at' gs (h.toNat * 5)), .int .i64 (v - at' gs (h.toNat * 5 + 1))] }), V.raw (.bool !nz gs (h.toNat * 5 + 4))] (iV (M.pick (!nz gs (h.toNat * 5 + 4)) (u - at' gs (h.toNat * 5)) (v - at' gs (h.toNat * 5 + 1))))), (inR IntKind.i64 (-M.pick (!nz gs (h.toNat * 5 + 4)) (u - at' gs (h.toNat * 5)) (v - at' gs (h.toNat * 5 + 1)))), ((2 : Int) ≠ (0 : Int)), (inR IntKind.i64 ((at' gs (h.toNat * 5 + 2)).tdiv 2)), (decide ((at' gs (h.toNat * 5 + 2)).tdiv 2 ≤ if -M.pick (!nz gs (h.toNat * 5 + 4)) (u - at' gs (h.toNat * 5)) (v - at' gs (h.toNat * 5 + 1)) > M.pick (!nz gs (h.toNat * 5 + 4)) (u - at' gs (h.toNat * 5)) (v - at' gs (h.toNat * 5 + 1)) then -M.pick (!nz gs (h.toNat * 5 + 4)) (u - at' gs (h.toNat * 5)) (v - at' gs (h.toNat * 5 + 1)) else M.pick (!nz gs (h.toNat * 5 + 4)) (u - at' gs (h.toNat * 5)) (v - at' gs (h.toNat * 5 + 1))) = true)]) zk
    ⟨(by exact below2 (lim := 0) rfl rfl 0 1 (N := []) hC (mix_all _ _) (ints_all _) rfl (fun k X h => by simp at h) rfl rfl (Nat.zero_le _)), zdo, rfl, zdo, (lnPoint _ _), (lnRadius _), zds, rfl, (by omega), zdf, inR_i64 (by omega) (by omega), rfl, (by omega), rfl, inR_i64 (by omega) (by omega), rfl, (by omega), zdf, inR_i64 (by omega) (by omega), rfl, (by omega), zdf, inR_i64 (by omega) (by omega), rfl, rfl, (by omega), (load_mix 5 0 (by kernel_rfl) (by kernel_rfl) (Nat.le_of_ble_eq_true rfl) (by show _ % 5 = 0; omega) (Nat.le_of_ble_eq_true rfl) (by omega)), inR_i64 (by omega) (by omega), inR_i64 (by omega) (by omega), (lnPick _ _ _), (lnPick _ _ _), inR_i64 (by omega) (by omega), zds, inR_i64 (by omega) (by omega), zdo, trivial⟩) (by kernel_rfl) zt13
theorem lnStand_ok_2 (E : Int) (hC : (zq220 nm w g y n a b r p q k gs T cs U E)) (h : Int) (fw : Bool) (u v s : Int) (hE : E = 0) (hL : 0 ≤ h) (hG : h < ↑n) (hP : M.ptE u v = 0) (hS : M.radE s = 0) (hz : n * 5 ≤ gs.length) (hn : n ≤ 20) (hH : (0 ≤ at' gs (h.toNat * 5) ∧ at' gs (h.toNat * 5) ≤ 4194304) ∧ (0 ≤ at' gs (h.toNat * 5 + 1) ∧ at' gs (h.toNat * 5 + 1) ≤ 4194304) ∧ (2 ≤ at' gs (h.toNat * 5 + 2) ∧ at' gs (h.toNat * 5 + 2) ≤ 32768) ∧ (0 ≤ (at' gs (h.toNat * 5 + 2)).tdiv 2 ∧ (at' gs (h.toNat * 5 + 2)).tdiv 2 ≤ 16384) ∧ (1 ≤ at' gs (h.toNat * 5 + 3) ∧ at' gs (h.toNat * 5 + 3) ≤ 8192)) (hP2 : (-4194304 ≤ u ∧ u ≤ 4194304) ∧ (-4194304 ≤ v ∧ v ≤ 4194304)) (hS2 : 1 ≤ s ∧ s ≤ 16384) (f0 : ¬(at' gs (h.toNat * 5 + 2)).tdiv 2 ≤ if -M.pick (!nz gs (h.toNat * 5 + 4)) (u - at' gs (h.toNat * 5)) (v - at' gs (h.toNat * 5 + 1)) > M.pick (!nz gs (h.toNat * 5 + 4)) (u - at' gs (h.toNat * 5)) (v - at' gs (h.toNat * 5 + 1)) then -M.pick (!nz gs (h.toNat * 5 + 4)) (u - at' gs (h.toNat * 5)) (v - at' gs (h.toNat * 5 + 1)) else M.pick (!nz gs (h.toNat * 5 + 4)) (u - at' gs (h.toNat * 5)) (v - at' gs (h.toNat * 5 + 1))) : Meets cfx 0 37 [lwA nm w g y n a b r p q k, .raw (.int .i64 h), .raw (.bool fw), .raw (.agg #[.int .i64 u, .int .i64 v]), .raw (.int .i64 s)] [bkG gs T, bkI cs U] (V.raw (.tuple { toList := [.int .i64 (M.stnd (M.pick fw (M.pick (nz gs (h.toNat * 5 + 4)) (u - at' gs (h.toNat * 5)) (v - at' gs (h.toNat * 5 + 1))) (-M.pick (nz gs (h.toNat * 5 + 4)) (u - at' gs (h.toNat * 5)) (v - at' gs (h.toNat * 5 + 1)))) s (at' gs (h.toNat * 5 + 3))), .int .i64 0] })) [bkG gs T, bkI cs U] := by
  have k1 := M.pick_or (nz gs (h.toNat * 5 + 4)) (u - at' gs (h.toNat * 5)) (v - at' gs (h.toNat * 5 + 1))
  have k2 := M.pick_or (!nz gs (h.toNat * 5 + 4)) (u - at' gs (h.toNat * 5)) (v - at' gs (h.toNat * 5 + 1))
  have k3 := M.pick_or fw (M.pick (nz gs (h.toNat * 5 + 4)) (u - at' gs (h.toNat * 5)) (v - at' gs (h.toNat * 5 + 1))) (-(M.pick (nz gs (h.toNat * 5 + 4)) (u - at' gs (h.toNat * 5)) (v - at' gs (h.toNat * 5 + 1))))
  refine Meets.post (meets_ev cfx_mixed cfx_call zz zb (n := 40) (ans := [Ans.go, Ans.olds [], Ans.reth (iV E) [bkG gs T, bkI cs U, some (.cells (lwC nm w g y n a b r p q k) 29 .ro), some (.cells [iV u, iV v] 24 .ro)], Ans.go, zF, zF, zF, Ans.ret (iV (M.ptE u v)), Ans.ret (iV (M.radE s)), Ans.go, zT, zF, zT, zF, zT, zF, zT, zF, zF, zF, Ans.val 0 (V.raw (.agg { toList := [.int .i64 (at' gs (h.toNat * 5)), .int .i64 (at' gs (h.toNat * 5 + 1)), .int .i64 (at' gs (h.toNat * 5 + 2)), .int .i64 (at' gs (h.toNat * 5 + 3)), .bool (nz gs (h.toNat * 5 + 4))] })), Ans.olds [], Ans.ret (iV (M.pick (nz gs (h.toNat * 5 + 4)) (u - at' gs (h.toNat * 5)) (v - at' gs (h.toNat * 5 + 1)))), Ans.ret (iV (M.pick (!nz gs (h.toNat * 5 + 4)) (u - at' gs (h.toNat * 5)) (v - at' gs (h.toNat * 5 + 1)))), zF, Ans.olds [], Ans.ret (iV (M.pick fw (M.pick (nz gs (h.toNat * 5 + 4)) (u - at' gs (h.toNat * 5)) (v - at' gs (h.toNat * 5 + 1))) (-M.pick (nz gs (h.toNat * 5 + 4)) (u - at' gs (h.toNat * 5)) (v - at' gs (h.toNat * 5 + 1))))), Ans.ret (iV (M.stnd (M.pick fw (M.pick (nz gs (h.toNat * 5 + 4)) (u - at' gs (h.toNat * 5)) (v - at' gs (h.toNat * 5 + 1))) (-M.pick (nz gs (h.toNat * 5 + 4)) (u - at' gs (h.toNat * 5)) (v - at' gs (h.toNat * 5 + 1)))) s (at' gs (h.toNat * 5 + 3))))]) (v := V.raw (.tuple { toList := [.int .i64 (M.stnd (M.pick fw (M.pick (nz gs (h.toNat * 5 + 4)) (u - at' gs (h.toNat * 5)) (v - at' gs (h.toNat * 5 + 1))) (-M.pick (nz gs (h.toNat * 5 + 4)) (u - at' gs (h.toNat * 5)) (v - at' gs (h.toNat * 5 + 1)))) s (at' gs (h.toNat * 5 + 3))), .int .i64 0] })) (h' := [bkG gs T, bkI cs U, bkW nm w g y n a b r p q k, bkP u v, bkW nm w g y n a b r p q k, some (.cells [iV E, iV 0, iV (M.ptE u v), iV (M.radE s)] 33 (.row 1)), some (.cells [iV (at' gs (h.toNat * 5)), iV (at' gs (h.toNat * 5 + 1)), iV (at' gs (h.toNat * 5 + 2)), iV (at' gs (h.toNat * 5 + 3)), V.raw (.bool (nz gs (h.toNat * 5 + 4)))] 71 .rw), some (.cells [iV (u - at' gs (h.toNat * 5)), iV (v - at' gs (h.toNat * 5 + 1))] 112 .rw)]) (cons := [(Meets cfx 0 52 [lwA nm w g y n a b r p q k] [bkG gs T, bkI cs U, some (.cells (lwC nm w g y n a b r p q k) 29 .ro), some (.cells [iV u, iV v] 24 .ro)] (iV E) [bkG gs T, bkI cs U, some (.cells (lwC nm w g y n a b r p q k) 29 .ro), some (.cells [iV u, iV v] 24 .ro)]), (decide (h < 0) = false), (false = false), (decide ((n : Int) ≤ h) = false), (Ret cfx 56 [V.raw (.agg { toList := [.int .i64 u, .int .i64 v] })] (iV (M.ptE u v))), (Ret cfx 80 [iV s] (iV (M.radE s))), (4 ≤ 9223372036854775807), (true = true), ((0 : Int) ≤ (0 : Int) ∧ (0 : Int) < (4 : Int)), ((!decide (E = 0)) = false), (inR IntKind.i64 1), (true = true), ((0 : Int) ≤ (1 : Int) ∧ (1 : Int) < (4 : Int)), (false = false), (inR IntKind.i64 2), (true = true), ((0 : Int) ≤ (2 : Int) ∧ (2 : Int) < (4 : Int)), ((!decide (M.ptE u v = 0)) = false), (inR IntKind.i64 3), (true = true), ((0 : Int) ≤ (3 : Int) ∧ (3 : Int) < (4 : Int)), ((!decide (M.radE s = 0)) = false), (inR IntKind.i64 4), (false = false), (false = false), (0 ≤ h ∧ h < (n : Int)), (loadRow cfx 71 (mix [false, false, false, false, true] gs) (h.toNat * 5) = some (V.raw (.agg { toList := [.int .i64 (at' gs (h.toNat * 5)), .int .i64 (at' gs (h.toNat * 5 + 1)), .int .i64 (at' gs (h.toNat * 5 + 2)), .int .i64 (at' gs (h.toNat * 5 + 3)), .bool (nz gs (h.toNat * 5 + 4))] }))), (inR IntKind.i64 (u - at' gs (h.toNat * 5))), (inR IntKind.i64 (v - at' gs (h.toNat * 5 + 1))), (Ret cfx 82 [V.raw (.agg { toList := [.int .i64 (u - at' gs (h.toNat * 5)), .int .i64 (v - at' gs (h.toNat * 5 + 1))] }), V.raw (.bool (nz gs (h.toNat * 5 + 4)))] (iV (M.pick (nz gs (h.toNat * 5 + 4)) (u - at' gs (h.toNat * 5)) (v - at' gs (h.toNat * 5 + 1))))), (Ret cfx 82 [V.raw (.agg { toList := [.int .i64 (u - at' gs (h.toNat * 5)), .int .i64 (v - at' gs (h.toNat * 5 + 1))] }), V.raw (.bool !nz gs (h.toNat * 5 + 4))] (iV (M.pick (!nz gs (h.toNat * 5 + 4)) (u - at' gs (h.toNat * 5)) (v - at' gs (h.toNat * 5 + 1))))), (inR IntKind.i64 (-M.pick (!nz gs (h.toNat * 5 + 4)) (u - at' gs (h.toNat * 5)) (v - at' gs (h.toNat * 5 + 1)))), ((2 : Int) ≠ (0 : Int)), (inR IntKind.i64 ((at' gs (h.toNat * 5 + 2)).tdiv 2)), (decide ((at' gs (h.toNat * 5 + 2)).tdiv 2 ≤ if -M.pick (!nz gs (h.toNat * 5 + 4)) (u - at' gs (h.toNat * 5)) (v - at' gs (h.toNat * 5 + 1)) > M.pick (!nz gs (h.toNat * 5 + 4)) (u - at' gs (h.toNat * 5)) (v - at' gs (h.toNat * 5 + 1)) then -M.pick (!nz gs (h.toNat * 5 + 4)) (u - at' gs (h.toNat * 5)) (v - at' gs (h.toNat * 5 + 1)) else M.pick (!nz gs (h.toNat * 5 + 4)) (u - at' gs (h.toNat * 5)) (v - at' gs (h.toNat * 5 + 1))) = false), (inR IntKind.i64 (-M.pick (nz gs (h.toNat * 5 + 4)) (u - at' gs (h.toNat * 5)) (v - at' gs (h.toNat * 5 + 1)))), (Ret cfx 82 [V.raw (.agg { toList := [.int .i64 (M.pick (nz gs (h.toNat * 5 + 4)) (u - at' gs (h.toNat * 5)) (v - at' gs (h.toNat * 5 + 1))), .int .i64 (-M.pick (nz gs (h.toNat * 5 + 4)) (u - at' gs (h.toNat * 5)) (v - at' gs (h.toNat * 5 + 1)))] }), V.raw (.bool fw)] (iV (M.pick fw (M.pick (nz gs (h.toNat * 5 + 4)) (u - at' gs (h.toNat * 5)) (v - at' gs (h.toNat * 5 + 1))) (-M.pick (nz gs (h.toNat * 5 + 4)) (u - at' gs (h.toNat * 5)) (v - at' gs (h.toNat * 5 + 1)))))), (Ret cfx 83 [iV (M.pick fw (M.pick (nz gs (h.toNat * 5 + 4)) (u - at' gs (h.toNat * 5)) (v - at' gs (h.toNat * 5 + 1))) (-M.pick (nz gs (h.toNat * 5 + 4)) (u - at' gs (h.toNat * 5)) (v - at' gs (h.toNat * 5 + 1)))), iV s, iV (at' gs (h.toNat * 5 + 3))] (iV (M.stnd (M.pick fw (M.pick (nz gs (h.toNat * 5 + 4)) (u - at' gs (h.toNat * 5)) (v - at' gs (h.toNat * 5 + 1))) (-M.pick (nz gs (h.toNat * 5 + 4)) (u - at' gs (h.toNat * 5)) (v - at' gs (h.toNat * 5 + 1)))) s (at' gs (h.toNat * 5 + 3)))))]) zk
    ⟨(by exact below2 (lim := 0) rfl rfl 0 1 (N := []) hC (mix_all _ _) (ints_all _) rfl (fun k X h => by simp at h) rfl rfl (Nat.zero_le _)), zdo, rfl, zdo, (lnPoint _ _), (lnRadius _), zds, rfl, (by omega), zdf, inR_i64 (by omega) (by omega), rfl, (by omega), rfl, inR_i64 (by omega) (by omega), rfl, (by omega), zdf, inR_i64 (by omega) (by omega), rfl, (by omega), zdf, inR_i64 (by omega) (by omega), rfl, rfl, (by omega), (load_mix 5 0 (by kernel_rfl) (by kernel_rfl) (Nat.le_of_ble_eq_true rfl) (by show _ % 5 = 0; omega) (Nat.le_of_ble_eq_true rfl) (by omega)), inR_i64 (by omega) (by omega), inR_i64 (by omega) (by omega), (lnPick _ _ _), (lnPick _ _ _), inR_i64 (by omega) (by omega), zds, inR_i64 (by omega) (by omega), zdo, inR_i64 (by omega) (by omega), (lnPick _ _ _), (lnStnd _ _ _ (by omega) (by omega) (by omega)), trivial⟩) (by kernel_rfl) zt13
theorem lnStand_ok (E : Int) (hC : (zq220 nm w g y n a b r p q k gs T cs U E)) (h : Int) (fw : Bool) (u v s : Int) (hE : E = 0) (hL : 0 ≤ h) (hG : h < ↑n) (hP : M.ptE u v = 0) (hS : M.radE s = 0) (hz : n * 5 ≤ gs.length) (hn : n ≤ 20) (hH : (0 ≤ at' gs (h.toNat * 5) ∧ at' gs (h.toNat * 5) ≤ 4194304) ∧ (0 ≤ at' gs (h.toNat * 5 + 1) ∧ at' gs (h.toNat * 5 + 1) ≤ 4194304) ∧ (2 ≤ at' gs (h.toNat * 5 + 2) ∧ at' gs (h.toNat * 5 + 2) ≤ 32768) ∧ (0 ≤ (at' gs (h.toNat * 5 + 2)).tdiv 2 ∧ (at' gs (h.toNat * 5 + 2)).tdiv 2 ≤ 16384) ∧ (1 ≤ at' gs (h.toNat * 5 + 3) ∧ at' gs (h.toNat * 5 + 3) ≤ 8192)) (hP2 : (-4194304 ≤ u ∧ u ≤ 4194304) ∧ (-4194304 ≤ v ∧ v ≤ 4194304)) (hS2 : 1 ≤ s ∧ s ≤ 16384) : Meets cfx 0 37 [lwA nm w g y n a b r p q k, .raw (.int .i64 h), .raw (.bool fw), .raw (.agg #[.int .i64 u, .int .i64 v]), .raw (.int .i64 s)] [bkG gs T, bkI cs U] (.raw (.tuple #[.int .i64 (M.standZ gs h.toNat fw u v s), .int .i64 0])) [bkG gs T, bkI cs U] := by
  have k1 := M.pick_or (nz gs (h.toNat * 5 + 4)) (u - at' gs (h.toNat * 5)) (v - at' gs (h.toNat * 5 + 1))
  have k2 := M.pick_or (!nz gs (h.toNat * 5 + 4)) (u - at' gs (h.toNat * 5)) (v - at' gs (h.toNat * 5 + 1))
  have k3 := M.pick_or fw (M.pick (nz gs (h.toNat * 5 + 4)) (u - at' gs (h.toNat * 5)) (v - at' gs (h.toNat * 5 + 1))) (-(M.pick (nz gs (h.toNat * 5 + 4)) (u - at' gs (h.toNat * 5)) (v - at' gs (h.toNat * 5 + 1))))
  by_cases f0 : (at' gs (h.toNat * 5 + 2)).tdiv 2 ≤ if -M.pick (!nz gs (h.toNat * 5 + 4)) (u - at' gs (h.toNat * 5)) (v - at' gs (h.toNat * 5 + 1)) > M.pick (!nz gs (h.toNat * 5 + 4)) (u - at' gs (h.toNat * 5)) (v - at' gs (h.toNat * 5 + 1)) then -M.pick (!nz gs (h.toNat * 5 + 4)) (u - at' gs (h.toNat * 5)) (v - at' gs (h.toNat * 5 + 1)) else M.pick (!nz gs (h.toNat * 5 + 4)) (u - at' gs (h.toNat * 5)) (v - at' gs (h.toNat * 5 + 1))
  ·
    have e : (.raw (.tuple #[.int .i64 (M.standZ gs h.toNat fw u v s), .int .i64 0]) : V) = V.raw (.tuple { toList := [.int .i64 0, .int .i64 0] }) := by (refine spec2 ?_ rfl; show M.standV (nz gs (h.toNat * 5 + 4)) fw (at' gs (h.toNat * 5)) (at' gs (h.toNat * 5 + 1)) (at' gs (h.toNat * 5 + 2)) (at' gs (h.toNat * 5 + 3)) u v s = _; unfold M.standV M.mx; first | rw [if_pos f0] | rw [if_neg f0])
    rw [e]
    exact lnStand_ok_1 nm gs cs n k T U w g y a b r p q E hC h fw u v s hE hL hG hP hS hz hn hH hP2 hS2 f0
  ·
    have e : (.raw (.tuple #[.int .i64 (M.standZ gs h.toNat fw u v s), .int .i64 0]) : V) = V.raw (.tuple { toList := [.int .i64 (M.stnd (M.pick fw (M.pick (nz gs (h.toNat * 5 + 4)) (u - at' gs (h.toNat * 5)) (v - at' gs (h.toNat * 5 + 1))) (-M.pick (nz gs (h.toNat * 5 + 4)) (u - at' gs (h.toNat * 5)) (v - at' gs (h.toNat * 5 + 1)))) s (at' gs (h.toNat * 5 + 3))), .int .i64 0] }) := by (refine spec2 ?_ rfl; show M.standV (nz gs (h.toNat * 5 + 4)) fw (at' gs (h.toNat * 5)) (at' gs (h.toNat * 5 + 1)) (at' gs (h.toNat * 5 + 2)) (at' gs (h.toNat * 5 + 3)) u v s = _; unfold M.standV M.mx; first | rw [if_pos f0] | rw [if_neg f0])
    rw [e]
    exact lnStand_ok_2 nm gs cs n k T U w g y a b r p q E hC h fw u v s hE hL hG hP hS hz hn hH hP2 hS2 f0
end Go.Proofs.Ytmelbcmfahcffaa
end
section
namespace Go.Proofs.Ytmelbcmfahcffaa
open Go Go.RowKit Go.Proofs.Ytmelbcmfahcffaa.E2
theorem M.lawn_ok {nm : ByteArray} {gs cs : List Int} {n k : Nat} {w g y a b r p q : Int} (h : M.lawnE nm gs cs n k w g y a b r p q = 0) : (1 ≤ n ∧ n ≤ 12) ∧ M.sidesB w g y = true ∧ M.hoopsB gs n = true ∧ M.gridB cs k p q = true ∧ M.postsB gs n w g a b r = true := by
  unfold M.lawnE at h
  by_cases h0 : n = 0 ∨ 12 < n ∨ 256 < k
  · rw [if_pos h0] at h; omega
  · rw [if_neg h0] at h
    by_cases h1 : M.lawnB nm gs cs n k w g y a b r p q = true
    · unfold M.lawnB at h1
      simp only [Bool.and_eq_true] at h1
      exact ⟨by omega, h1.2.1, h1.2.2.1, h1.2.2.2.1, h1.2.2.2.2⟩
    · rw [if_neg h1] at h; omega
end Go.Proofs.Ytmelbcmfahcffaa
end
section
namespace Go.Proofs.Ytmelbcmfahcffaa
open Go Go.RowKit Go.Proofs.Ytmelbcmfahcffaa.E2
def ixf_T (os : List Int) (m : Nat) (W : Nat) (u v s : Int) (i : Int) : List V := (catV [.slo 0 m, V.fn (Fn.func 106) [] [.ptr 1 0], uV, .any 3, iV 0, .any 5, .slo 0 m, iV (m : Int), iV i] (anyR 9 10 []))
def ixf_H (os : List Int) (m : Nat) (W : Nat) (u v s : Int) (i : Int) : Heap := [bkI os W, some (.cells [iV u, iV v, iV s] 26 .ro)]
def ixf_T1 (os : List Int) (m : Nat) (W : Nat) (u v s : Int) (i : Int) : List V := (catV [.slo 0 m, V.fn (Fn.func 106) [] [.ptr 1 0], uV, .any 3, iV i, .any 5, .slo 0 m, iV (m : Int), iV i] (anyR 9 10 []))
def ixf_H1 (os : List Int) (m : Nat) (W : Nat) (u v s : Int) (i : Int) : Heap := [bkI os W, some (.cells [iV u, iV v, iV s] 26 .ro)]
abbrev zq104 (os : List Int) (i : Int) (W : Nat) (u : Int) (v : Int) (s : Int) : Prop := Meets cfx 0 106 [V.raw (.agg { toList := [.int .i64 (at' os (i.toNat * 3)), .int .i64 (at' os (i.toNat * 3 + 1)), .int .i64 (at' os (i.toNat * 3 + 2))] }), .ptr 1 0] [bkI os W, some (.cells [iV u, iV v, iV s] 26 .ro)] (V.raw (.bool (M.overB u v s (at' os (i.toNat * 3)) (at' os (i.toNat * 3 + 1)) (at' os (i.toNat * 3 + 2))))) [bkI os W, some (.cells [iV u, iV v, iV s] 26 .ro)]
theorem ixf_1 (os : List Int) (m : Nat) (W : Nat) (u v s : Int) (hz : m * 3 ≤ os.length) (hm : m ≤ 1000) (hd : chkDisc u v s = 0) (i : Int) (hi1 : 0 ≤ i) (hq : i < ↑m → chkDisc (at' os (i.toNat * 3)) (at' os (i.toNat * 3 + 1)) (at' os (i.toNat * 3 + 2)) = 0) (f0 : i < (m : Int)) (f1 : M.overB u v s (at' os (i.toNat * 3)) (at' os (i.toNat * 3 + 1)) (at' os (i.toNat * 3 + 2)) = true) : Runs cfx 0 2 none (loopOf cfx.P 108 0) (ixf_T os m W u v s i) (ixf_H os m W u v s i) (Ex.ret) (ixf_T1 os m W u v s i) (ixf_H1 os m W u v s i) := by
  refine Runs.post (t1 := [.slo 0 m, V.fn (Fn.func 106) [] [.ptr 1 0], uV, .any 3, iV i, iV i, .slo 0 m, iV (m : Int), iV i, V.raw (.bool (decide (i < (m : Int)))), iV i, V.fn (Fn.func 106) [] [.ptr 1 0], .slo 0 m, iV i, V.ptr 0 (i.toNat * 3), (rowV os (i.toNat * 3) 3), V.raw (.bool (M.overB u v s (at' os (i.toNat * 3)) (at' os (i.toNat * 3 + 1)) (at' os (i.toNat * 3 + 2)))), iV i, .any 18]) (h1 := [bkI os W, some (.cells [iV u, iV v, iV s] 26 .ro)]) (body_of cfx_mixed cfx_call zz (rnd := none) (fi := 0) (k := 0) (n := 40) (n0 := 2) (ans := [zT, Ans.val 0 ((rowV os (i.toNat * 3) 3)), Ans.reth (V.raw (.bool (M.overB u v s (at' os (i.toNat * 3)) (at' os (i.toNat * 3 + 1)) (at' os (i.toNat * 3 + 2))))) [bkI os W, some (.cells [iV u, iV v, iV s] 26 .ro)], zT]) (cons := [(decide (i < (m : Int)) = true), (0 ≤ i ∧ i < (m : Int)), (loadRow cfx 26 (ints os) (i.toNat * 3) = some ((rowV os (i.toNat * 3) 3))), ((zq104 os i W u v s)), (M.overB u v s (at' os (i.toNat * 3)) (at' os (i.toNat * 3 + 1)) (at' os (i.toNat * 3 + 2)) = true)]) zk
    ⟨zdo, zo, (load_agg 3 zk zk zb zo), (by exact below_ro (lim := 0) (N := []) rfl rfl (fun k => 1) (fun _ => false) (lnTouches _ _ _ _ _ _ hd (hq zo)) ⟨⟨_, _, rfl, rfl, .inl ⟨rfl, _, rfl⟩⟩, trivial⟩ (fun _ _ => rfl) rfl rfl rfl (fun k X h => by simp at h) zz), zdf, trivial⟩ zb zb noRnd (noRanges zk)) zt7
theorem ixf_2 (os : List Int) (m : Nat) (W : Nat) (u v s : Int) (hz : m * 3 ≤ os.length) (hm : m ≤ 1000) (hd : chkDisc u v s = 0) (i : Int) (hi1 : 0 ≤ i) (hq : i < ↑m → chkDisc (at' os (i.toNat * 3)) (at' os (i.toNat * 3 + 1)) (at' os (i.toNat * 3 + 2)) = 0) (f0 : i < (m : Int)) (f1 : M.overB u v s (at' os (i.toNat * 3)) (at' os (i.toNat * 3 + 1)) (at' os (i.toNat * 3 + 2)) = false) : Runs cfx 0 2 none (loopOf cfx.P 108 0) (ixf_T os m W u v s i) (ixf_H os m W u v s i) (Ex.normal) (ixf_T os m W u v s (i + 1)) (ixf_H os m W u v s (i + 1)) := by
  refine Runs.post (t1 := [.slo 0 m, V.fn (Fn.func 106) [] [.ptr 1 0], uV, .any 3, iV 0, iV i, .slo 0 m, iV (m : Int), iV (i + 1), V.raw (.bool (decide (i < (m : Int)))), iV i, V.fn (Fn.func 106) [] [.ptr 1 0], .slo 0 m, iV i, V.ptr 0 (i.toNat * 3), (rowV os (i.toNat * 3) 3), V.raw (.bool (M.overB u v s (at' os (i.toNat * 3)) (at' os (i.toNat * 3 + 1)) (at' os (i.toNat * 3 + 2)))), .any 17, iV (i + 1)]) (h1 := [bkI os W, some (.cells [iV u, iV v, iV s] 26 .ro)]) (body_of cfx_mixed cfx_call zz (rnd := none) (fi := 0) (k := 0) (n := 40) (n0 := 2) (ans := [zT, Ans.val 0 ((rowV os (i.toNat * 3) 3)), Ans.reth (V.raw (.bool (M.overB u v s (at' os (i.toNat * 3)) (at' os (i.toNat * 3 + 1)) (at' os (i.toNat * 3 + 2))))) [bkI os W, some (.cells [iV u, iV v, iV s] 26 .ro)], zF]) (cons := [(decide (i < (m : Int)) = true), (0 ≤ i ∧ i < (m : Int)), (loadRow cfx 26 (ints os) (i.toNat * 3) = some ((rowV os (i.toNat * 3) 3))), ((zq104 os i W u v s)), (M.overB u v s (at' os (i.toNat * 3)) (at' os (i.toNat * 3 + 1)) (at' os (i.toNat * 3 + 2)) = false), (inR IntKind.i64 (i + 1))]) zk
    ⟨zdo, zo, (load_agg 3 zk zk zb zo), (by exact below_ro (lim := 0) (N := []) rfl rfl (fun k => 1) (fun _ => false) (lnTouches _ _ _ _ _ _ hd (hq zo)) ⟨⟨_, _, rfl, rfl, .inl ⟨rfl, _, rfl⟩⟩, trivial⟩ (fun _ _ => rfl) rfl rfl rfl (fun k X h => by simp at h) zz), zdf, inR_i64 zo zo, trivial⟩ zb zb noRnd (noRanges zk)) zt7
def ixf_T3 (os : List Int) (m : Nat) (W : Nat) (u v s : Int) (i : Int) : List V := (catV [.slo 0 m, V.fn (Fn.func 106) [] [.ptr 1 0], uV, .any 3, iV 0, .any 5, .slo 0 m, iV (m : Int), iV i] (anyR 9 10 []))
def ixf_H3 (os : List Int) (m : Nat) (W : Nat) (u v s : Int) (i : Int) : Heap := [bkI os W, some (.cells [iV u, iV v, iV s] 26 .ro)]
theorem ixf_3 (os : List Int) (m : Nat) (W : Nat) (u v s : Int) (hz : m * 3 ≤ os.length) (hm : m ≤ 1000) (hd : chkDisc u v s = 0) (i : Int) (hi1 : 0 ≤ i) (hq : i < ↑m → chkDisc (at' os (i.toNat * 3)) (at' os (i.toNat * 3 + 1)) (at' os (i.toNat * 3 + 2)) = 0) (f0 : ¬i < (m : Int)) : Runs cfx 0 2 none (loopOf cfx.P 108 0) (ixf_T os m W u v s i) (ixf_H os m W u v s i) (Ex.exit 0) (ixf_T3 os m W u v s i) (ixf_H3 os m W u v s i) := by
  refine Runs.post (t1 := (catV [.slo 0 m, V.fn (Fn.func 106) [] [.ptr 1 0], uV, .any 3, iV 0, .any 5, .slo 0 m, iV (m : Int), iV i, V.raw (.bool (decide (i < (m : Int))))] (anyR 10 9 []))) (h1 := [bkI os W, some (.cells [iV u, iV v, iV s] 26 .ro)]) (body_of cfx_mixed cfx_call zz (rnd := none) (fi := 0) (k := 0) (n := 40) (n0 := 2) (ans := [zF]) (cons := [(decide (i < (m : Int)) = false)]) zk
    ⟨zdo, trivial⟩ zb zb noRnd (noRanges zk)) zt7
end Go.Proofs.Ytmelbcmfahcffaa
end
section
namespace Go.Proofs.Ytmelbcmfahcffaa
open Go Go.RowKit Go.Proofs.Ytmelbcmfahcffaa.E2
def M.tchA (os : List Int) (m : Nat) (u v s : Int) : Bool := !(List.range m).all fun i => !M.tchZ os u v s i
theorem ixf_loop (os : List Int) (m : Nat) (W : Nat) (u v s : Int) (hz : m * 3 ≤ os.length) (hm : m ≤ 1000) (hd : chkDisc u v s = 0) (hq : ∀ i : Nat, i < m → chkDisc (at' os (i * 3)) (at' os (i * 3 + 1)) (at' os (i * 3 + 2)) = 0) : (M.tchA os m u v s = false ∧ Runs cfx 0 2 none (.loop (loopOf cfx.P 108 0)) (ixf_T os m W u v s 0) (ixf_H os m W u v s 0) (.exit 0) (ixf_T3 os m W u v s m) (ixf_H3 os m W u v s m)) ∨ (M.tchA os m u v s = true ∧ ∃ i : Nat, Runs cfx 0 2 none (.loop (loopOf cfx.P 108 0)) (ixf_T os m W u v s 0) (ixf_H os m W u v s 0) (.ret) (ixf_T1 os m W u v s i) (ixf_H1 os m W u v s i)) := by
  unfold M.tchA
  rcases upto_find (c := cfx) (lim := 0) (n0 := 2) (x := loopOf cfx.P 108 0) noRnd (fun i => !M.tchZ os u v s i) (fun i : Nat => ixf_T os m W u v s i) (fun i : Nat => ixf_H os m W u v s i) m (fun i : Nat => ixf_T1 os m W u v s i) (fun i : Nat => ixf_H1 os m W u v s i) (e := .exit 0) (e1 := .ret) (by simp) (by simp)
    (fun i hi hg => ixf_2 os m W u v s hz hm hd i (by omega) (fun _ => by simp only [Int.toNat_natCast]; exact hq i hi) (by omega) (show M.tchZ os u v s i = false by simpa using hg))
    (fun i hi hg => ixf_1 os m W u v s hz hm hd i (by omega) (fun _ => by simp only [Int.toNat_natCast]; exact hq i hi) (by omega) (show M.tchZ os u v s i = true by simpa using hg))
    (ixf_3 os m W u v s hz hm hd m zo (fun h => by omega) zo) with ⟨h1, h2⟩ | ⟨h1, i, hi, h2, h3, h4⟩
  · exact .inl ⟨by rw [h1]; rfl, h2⟩
  · exact .inr ⟨by rw [h1]; rfl, i, h4⟩
abbrev zq182 (m : Nat) : List V := (catV [.slo 0 m, V.fn (Fn.func 106) [] [.ptr 1 0], uV, .any 3, iV 0, .any 5, .slo 0 m, iV (m : Int), iV (m : Int)] (anyR 9 10 []))
abbrev zq201 (m : Nat) : List V := (catV [.slo 0 m, V.fn (Fn.func 106) [] [.ptr 1 0], uV, uV, iV 0, uV, .slo 0 m, iV (m : Int), iV 0] (repU 10 []))
abbrev zq225 (os : List Int) (W : Nat) (u : Int) (v : Int) (s : Int) : Heap := [bkI os W, some (.cells [.raw (.int .i64 u), .raw (.int .i64 v), .raw (.int .i64 s)] 26 .ro)]
theorem cfn_no (os : List Int) (m : Nat) (W : Nat) (u v s : Int) (hz : m * 3 ≤ os.length) (hm : m ≤ 1000) (hd : chkDisc u v s = 0) (hR : Runs cfx 0 2 none (.loop (loopOf cfx.P 108 0)) (ixf_T os m W u v s 0) (ixf_H os m W u v s 0) (.exit 0) (ixf_T3 os m W u v s m) (ixf_H3 os m W u v s m))  : Meets cfx 0 78 [.slo 0 m, V.fn (Fn.func 106) [] [.ptr 1 0]] (zq225 os W u v s) (V.raw (.bool false)) [bkI os W, some (.cells [iV u, iV v, iV s] 26 .ro)] := by
  refine Meets.post (meets_ev cfx_mixed cfx_call zz zb (n := 40) (ans := [Ans.go, Ans.go, Ans.loop (Ex.exit 0) (zq182 m) [bkI os W, some (.cells [iV u, iV v, iV s] 26 .ro)]]) (v := V.raw (.bool false)) (h' := [bkI os W, some (.cells [iV u, iV v, iV s] 26 .ro)]) (cons := [(Runs cfx 0 2 none (.loop (loopOf cfx.P 108 0)) (zq201 m) [bkI os W, some (.cells [iV u, iV v, iV s] 26 .ro)] (Ex.exit 0) (zq182 m) [bkI os W, some (.cells [iV u, iV v, iV s] 26 .ro)])]) zk
    ⟨(by
      refine Runs.pre (fun b e => by cases e) (fun RT RH => ?_) (hR)
      exact reshape2 (lim := 0) 2 (t := (zq201 m)) (h := [bkI os W, some (.cells [iV u, iV v, iV s] 26 .ro)]) cfx_G rfl [] zk zk zdr RT RH), trivial⟩) zk zt7
abbrev zq176 (m : Nat) (i : Nat) : List V := (catV [.slo 0 m, V.fn (Fn.func 106) [] [.ptr 1 0], uV, .any 3, iV (i : Int), .any 5, .slo 0 m, iV (m : Int), iV (i : Int)] (anyR 9 10 []))
theorem cfn_yes (os : List Int) (m : Nat) (W : Nat) (u v s : Int) (hz : m * 3 ≤ os.length) (hm : m ≤ 1000) (hd : chkDisc u v s = 0) (i : Nat) (hR : Runs cfx 0 2 none (.loop (loopOf cfx.P 108 0)) (ixf_T os m W u v s 0) (ixf_H os m W u v s 0) (.ret) (ixf_T1 os m W u v s i) (ixf_H1 os m W u v s i))  : Meets cfx 0 78 [.slo 0 m, V.fn (Fn.func 106) [] [.ptr 1 0]] (zq225 os W u v s) (V.raw (.bool true)) [bkI os W, some (.cells [iV u, iV v, iV s] 26 .ro)] := by
  refine Meets.post (meets_ev cfx_mixed cfx_call zz zb (n := 40) (ans := [Ans.go, Ans.go, Ans.loop Ex.ret (zq176 m i) [bkI os W, some (.cells [iV u, iV v, iV s] 26 .ro)]]) (v := V.raw (.bool true)) (h' := [bkI os W, some (.cells [iV u, iV v, iV s] 26 .ro)]) (cons := [(Runs cfx 0 2 none (.loop (loopOf cfx.P 108 0)) (zq201 m) [bkI os W, some (.cells [iV u, iV v, iV s] 26 .ro)] (Ex.ret) (zq176 m i) [bkI os W, some (.cells [iV u, iV v, iV s] 26 .ro)])]) zk
    ⟨(by
      refine Runs.pre (fun b e => by cases e) (fun RT RH => ?_) (hR)
      exact reshape2 (lim := 0) 2 (t := (zq201 m)) (h := [bkI os W, some (.cells [iV u, iV v, iV s] 26 .ro)]) cfx_G rfl [] zk zk zdr RT RH), trivial⟩) zk zt7
theorem lnContains (os : List Int) (m : Nat) (W : Nat) (u v s : Int) (hz : m * 3 ≤ os.length) (hm : m ≤ 1000) (hd : chkDisc u v s = 0) (hq : ∀ i : Nat, i < m → chkDisc (at' os (i * 3)) (at' os (i * 3 + 1)) (at' os (i * 3 + 2)) = 0) : Meets cfx 0 78 [.slo 0 m, V.fn (Fn.func 106) [] [.ptr 1 0]] (zq225 os W u v s) (.raw (.bool (M.tchA os m u v s))) (zq225 os W u v s) := by
  rcases ixf_loop os m W u v s hz hm hd hq with ⟨e, R⟩ | ⟨e, i, R⟩ <;> rw [e]
  · exact cfn_no os m W u v s hz hm hd R
  · exact cfn_yes os m W u v s hz hm hd i R
end Go.Proofs.Ytmelbcmfahcffaa
end
section
namespace Go.Proofs.Ytmelbcmfahcffaa
open Go Go.RowKit Go.Proofs.Ytmelbcmfahcffaa.E2
variable (nm : ByteArray) (gs cs : List Int) (n k : Nat) (T U : Nat) (w g y a b r p q : Int)
abbrev zq84 (hf : Int) (y : Int) (w : Int) (g : Int) (t : Int) : List V := (catV [V.yld 16, .ptr 14 0, .ptr 15 0, uV, iV (2 * hf), .any 5, V.raw (.agg { toList := [.int .i64 y, .int .i64 y, .int .i64 (w - y), .int .i64 (g - y)] }), iV hf, iV (2 * hf), V.raw (.agg { toList := [.int .i64 y, .int .i64 y, .int .i64 (w - y), .int .i64 (g - y)] }), iV hf, iV (hf + 1), iV t] (anyR 13 27 []))
def ptl_T (nm : ByteArray) (gs cs : List Int) (n k : Nat) (T U : Nat) (w g y a b r p q : Int) (os : List Int) (m : Nat) (W : Nat) (u v s : Int) (sx sy n0 hf : Int) (t : Int) : List V := (zq84 hf y w g t)
abbrev zq234 (nm : ByteArray) (w : Int) (g : Int) (y : Int) (n : Nat) (a : Int) (b : Int) (r : Int) (p : Int) (q : Int) (k : Nat) (u : Int) (v : Int) (s : Int) (m : Nat) (sx : Int) (sy : Int) (n0 : Int) : List V := (catV [lwA nm w g y n a b r p q k, V.raw (.agg { toList := [.int .i64 u, .int .i64 v] }), iV s, .slo 2 m, .ptr 3 0, .ptr 4 0, .ptr 5 0, .ptr 6 0, .ptr 7 0, .ptr 8 0, iV 0, .ptr 12 0, .ptr 13 0, uV, lwA nm w g y n a b r p q k, iV s, .slo 2 m, V.raw (.agg { toList := [.int .i64 u, .int .i64 v] }), .slo 9 1, iV 0, iV 0, V.raw (.bool false), uV, uV, lwA nm w g y n a b r p q k, V.raw (.agg { toList := [.int .i64 y, .int .i64 y, .int .i64 (w - y), .int .i64 (g - y)] }), V.raw (.agg { toList := [.int .i64 y, .int .i64 y, .int .i64 (w - y), .int .i64 (g - y)] }), V.raw (.agg { toList := [.int .i64 u, .int .i64 v] }), V.raw (.agg { toList := [.int .i64 sx, .int .i64 sy] }), V.raw (.agg { toList := [.int .i64 y, .int .i64 y, .int .i64 (w - y), .int .i64 (g - y)] }), V.raw (.agg { toList := [.int .i64 sx, .int .i64 sy] }), V.raw (.bool true), V.raw (.bool false), uV, V.raw (.agg { toList := [.int .i64 y, .int .i64 y, .int .i64 (w - y), .int .i64 (g - y)] }), V.raw (.agg { toList := [.int .i64 y, .int .i64 y, .int .i64 (w - y), .int .i64 (g - y)] }), V.raw (.agg { toList := [.int .i64 sx, .int .i64 sy] }), iV n0, V.fn (Fn.func 109) [] [.ptr 14 0, .ptr 15 0]] (repU 9 []))
abbrev zq23 (gs : List Int) (T : Nat) (cs : List Int) (U : Nat) (os : List Int) (W : Nat) (nm : ByteArray) (w : Int) (g : Int) (y : Int) (n : Nat) (a : Int) (b : Int) (r : Int) (p : Int) (q : Int) (k : Nat) (u : Int) (v : Int) (s : Int) (m : Nat) (sx : Int) (sy : Int) (n0 : Int) (t : Int) : Heap := [bkG gs T, bkI cs U, bkI os W, bkW nm w g y n a b r p q k, bkP u v, some (.cells [iV s] 2 .rw), some (.cells [.slo 2 m] 32 .rw), bkP 0 0, some (.cells [iV 0] 33 .rw), some (.cells [iV u, iV v] 24 (.row 2)), bkW nm w g y n a b r p q k, some (.cells [iV y, iV y, iV (w - y), iV (g - y)] 89 .rw), some (.cells [iV y, iV y, iV (w - y), iV (g - y)] 89 .rw), bkP sx sy, some (.cells [iV y, iV y, iV (w - y), iV (g - y)] 89 .rw), some (.cells [iV n0] 2 .rw), some (Blk.rcd { t := (zq234 nm w g y n a b r p q k u v s m sx sy n0), f := 39, i := 0, st := RSt.ready })]
def ptl_H (nm : ByteArray) (gs cs : List Int) (n k : Nat) (T U : Nat) (w g y a b r p q : Int) (os : List Int) (m : Nat) (W : Nat) (u v s : Int) (sx sy n0 hf : Int) (t : Int) : Heap := (zq23 gs T cs U os W nm w g y n a b r p q k u v s m sx sy n0 t)
def ptl_T1 (nm : ByteArray) (gs cs : List Int) (n k : Nat) (T U : Nat) (w g y a b r p q : Int) (os : List Int) (m : Nat) (W : Nat) (u v s : Int) (sx sy n0 hf : Int) (t : Int) : List V := (zq84 hf y w g t)
abbrev zq31 (nm : ByteArray) (w : Int) (g : Int) (y : Int) (n : Nat) (a : Int) (b : Int) (r : Int) (p : Int) (q : Int) (k : Nat) (u : Int) (v : Int) (s : Int) (m : Nat) (sx : Int) (sy : Int) (n0 : Int) : List V := (zq234 nm w g y n a b r p q k u v s m sx sy n0)
abbrev zq262 (y : Int) (w : Int) (g : Int) (n0 : Int) (t : Int) (hf : Int) : List V := [iV (M.yX y y (w - y) (g - y) ((n0 + t).tmod (2 * hf))), iV (M.yY y y (w - y) (g - y) ((n0 + t).tmod (2 * hf)))]
abbrev zq214 (y : Int) (w : Int) (g : Int) (n0 : Int) (t : Int) (hf : Int) : List V := (zq262 y w g n0 t hf)
def ptl_H1 (nm : ByteArray) (gs cs : List Int) (n k : Nat) (T U : Nat) (w g y a b r p q : Int) (os : List Int) (m : Nat) (W : Nat) (u v s : Int) (sx sy n0 hf : Int) (t : Int) : Heap := [bkG gs T, bkI cs U, bkI os W, bkW nm w g y n a b r p q k, bkP u v, some (.cells [iV s] 2 .rw), some (.cells [.slo 2 m] 32 .rw), some (.cells (zq214 y w g n0 t hf) 24 .rw), some (.cells [iV 0] 33 .rw), some (.cells [iV u, iV v] 24 (.row 2)), bkW nm w g y n a b r p q k, some (.cells [iV y, iV y, iV (w - y), iV (g - y)] 89 .rw), some (.cells [iV y, iV y, iV (w - y), iV (g - y)] 89 .rw), bkP sx sy, some (.cells [iV y, iV y, iV (w - y), iV (g - y)] 89 .rw), some (.cells [iV n0] 2 .rw), some (Blk.rcd { t := (zq31 nm w g y n a b r p q k u v s m sx sy n0), f := 39, i := 0, st := RSt.done Ex.ret })]
abbrev zq235 (gs : List Int) (T : Nat) (cs : List Int) (U : Nat) (os : List Int) (W : Nat) (nm : ByteArray) (w : Int) (g : Int) (y : Int) (n : Nat) (a : Int) (b : Int) (r : Int) (p : Int) (q : Int) (k : Nat) (u : Int) (v : Int) (s : Int) (m : Nat) (sx : Int) (sy : Int) (n0 : Int) (t : Int) (hf : Int) : Heap := [bkG gs T, bkI cs U, bkI os W, some (.cells (lwC nm w g y n a b r p q k) 29 .ro), some (.cells [iV u, iV v] 24 .ro), some (.cells [iV s] 2 .ro), some (.cells [.slo 2 m] 32 .ro), some (.cells [iV 0, iV 0] 24 .ro), some (.cells [iV 0] 33 .ro), some (.cells [iV u, iV v] 24 .ro), some (.cells (lwC nm w g y n a b r p q k) 29 .ro), some (.cells [iV y, iV y, iV (w - y), iV (g - y)] 89 .ro), some (.cells [iV y, iV y, iV (w - y), iV (g - y)] 89 .ro), some (.cells [iV sx, iV sy] 24 .ro), some (.cells [iV y, iV y, iV (w - y), iV (g - y)] 89 .ro), some (.cells [iV n0] 2 .ro), none, some (.cells (zq262 y w g n0 t hf) 24 .ro), some (.cells (zq262 y w g n0 t hf) 24 .ro), some (.cells [iV (M.yX y y (w - y) (g - y) ((n0 + t).tmod (2 * hf))), iV (M.yY y y (w - y) (g - y) ((n0 + t).tmod (2 * hf))), iV s] 26 .ro)]
abbrev zq10 (m : Nat) (gs : List Int) (T : Nat) (cs : List Int) (U : Nat) (os : List Int) (W : Nat) (nm : ByteArray) (w : Int) (g : Int) (y : Int) (n : Nat) (a : Int) (b : Int) (r : Int) (p : Int) (q : Int) (k : Nat) (u : Int) (v : Int) (s : Int) (sx : Int) (sy : Int) (n0 : Int) (t : Int) (hf : Int) : Prop := Meets cfx 0 78 [.slo 2 m, V.fn (Fn.func 106) [] [.ptr 19 0]] (zq235 gs T cs U os W nm w g y n a b r p q k u v s m sx sy n0 t hf) (V.raw (.bool (M.tchA os m (M.yX y y (w - y) (g - y) ((n0 + t).tmod (2 * hf))) (M.yY y y (w - y) (g - y) ((n0 + t).tmod (2 * hf))) s))) (zq235 gs T cs U os W nm w g y n a b r p q k u v s m sx sy n0 t hf)
abbrev zq34 (gs : List Int) (T : Nat) (cs : List Int) (U : Nat) (os : List Int) (W : Nat) (nm : ByteArray) (w : Int) (g : Int) (y : Int) (n : Nat) (a : Int) (b : Int) (r : Int) (p : Int) (q : Int) (k : Nat) (u : Int) (v : Int) (s : Int) (m : Nat) (sx : Int) (sy : Int) (n0 : Int) (t : Int) (hf : Int) : Heap := (zq235 gs T cs U os W nm w g y n a b r p q k u v s m sx sy n0 t hf)
abbrev zq129 (nm : ByteArray) (w : Int) (g : Int) (y : Int) (n : Nat) (a : Int) (b : Int) (r : Int) (p : Int) (q : Int) (k : Nat) (s : Int) (m : Nat) (gs : List Int) (T : Nat) (cs : List Int) (U : Nat) (os : List Int) (W : Nat) (u : Int) (v : Int) : Prop := Meets cfx 0 71 [lwA nm w g y n a b r p q k, .raw (.int .i64 s), .slo 2 m, .slo 3 1] [bkG gs T, bkI cs U, bkI os W, some (.cells [.raw (.int .i64 u), .raw (.int .i64 v)] 24 .ro)] (.raw (.int .i64 0)) [bkG gs T, bkI cs U, bkI os W, some (.cells [.raw (.int .i64 u), .raw (.int .i64 v)] 24 .ro)]
abbrev zq130 (y : Int) (w : Int) (g : Int) (n0 : Int) (t : Int) (hf : Int) : Prop := Ret cfx 65 [V.raw (.agg { toList := [.int .i64 y, .int .i64 y, .int .i64 (w - y), .int .i64 (g - y)] }), iV ((n0 + t).tmod (2 * hf))] (V.raw (.agg { toList := [.int .i64 (M.yX y y (w - y) (g - y) ((n0 + t).tmod (2 * hf))), .int .i64 (M.yY y y (w - y) (g - y) ((n0 + t).tmod (2 * hf)))] }))
abbrev zq187 (y : Int) (w : Int) (g : Int) (u : Int) (v : Int) (sx : Int) (sy : Int) : Prop := Ret cfx 62 [.raw (.agg #[.int .i64 y, .int .i64 y, .int .i64 (w - y), .int .i64 (g - y)]), .raw (.agg #[.int .i64 u, .int .i64 v])] (.raw (.agg #[.int .i64 sx, .int .i64 sy]))
abbrev zq192 (y : Int) (w : Int) (g : Int) (sx : Int) (sy : Int) (n0 : Int) : Prop := Ret cfx 67 [.raw (.agg #[.int .i64 y, .int .i64 y, .int .i64 (w - y), .int .i64 (g - y)]), .raw (.agg #[.int .i64 sx, .int .i64 sy])] (.raw (.int .i64 n0))
abbrev zq193 (y : Int) (w : Int) (g : Int) (sx : Int) (sy : Int) : Prop := Ret cfx 66 [.raw (.agg #[.int .i64 y, .int .i64 y, .int .i64 (w - y), .int .i64 (g - y)]), .raw (.agg #[.int .i64 sx, .int .i64 sy])] (.raw (.bool true))
abbrev zq207 (y : Int) (w : Int) (g : Int) (n0 : Int) (t : Int) (hf : Int) (s : Int) : List V := [iV (M.yX y y (w - y) (g - y) ((n0 + t).tmod (2 * hf))), iV (M.yY y y (w - y) (g - y) ((n0 + t).tmod (2 * hf))), iV s]
abbrev zq215 (y : Int) (w : Int) (g : Int) (hf : Int) : Prop := Ret cfx 64 [.raw (.agg #[.int .i64 y, .int .i64 y, .int .i64 (w - y), .int .i64 (g - y)])] (.raw (.int .i64 hf))
theorem ptl_1 (os : List Int) (m : Nat) (W : Nat) (u v s : Int) (hz : m * 3 ≤ os.length) (hB : (zq129 nm w g y n a b r p q k s m gs T cs U os W u v)) (hm1 : m ≤ 1000) (sx sy n0 hf : Int) (hsp : (zq187 y w g u v sx sy)) (hha : (zq193 y w g sx sy)) (hnu : (zq192 y w g sx sy n0)) (hhf : (zq215 y w g hf)) (hwg : (0 ≤ w ∧ w ≤ 4194304) ∧ (0 ≤ g ∧ g ≤ 4194304) ∧ (0 ≤ y ∧ y ≤ 1048576)) (hn0 : 0 ≤ n0 ∧ n0 ≤ 16777216) (hf0 : 1 ≤ hf ∧ hf ≤ 8388608) (hq2 : ∀ i : Nat, i < m → chkDisc (at' os (i * 3)) (at' os (i * 3 + 1)) (at' os (i * 3 + 2)) = 0) (hpl : ∀ j : Int, 0 ≤ j → j < 2 * hf → chkDisc (M.yX y y (w - y) (g - y) j) (M.yY y y (w - y) (g - y) j) s = 0) (t : Int) (ht : 0 ≤ t) (ht2 : t ≤ 8388609) (hta : 0 ≤ ((n0 + t).tmod (2 * hf)) ∧ ((n0 + t).tmod (2 * hf)) < 2 * hf) (htb : 0 ≤ ((n0 - t + 2 * hf).tmod (2 * hf)) ∧ ((n0 - t + 2 * hf).tmod (2 * hf)) < 2 * hf) (f0 : t < hf + 1) (f1 : M.tchA os m (M.yX y y (w - y) (g - y) ((n0 + t).tmod (2 * hf))) (M.yY y y (w - y) (g - y) ((n0 + t).tmod (2 * hf))) s = false) : Runs cfx 0 17 none (loopOf cfx.P 109 0) (ptl_T nm gs cs n k T U w g y a b r p q os m W u v s sx sy n0 hf t) (ptl_H nm gs cs n k T U w g y a b r p q os m W u v s sx sy n0 hf t) (Ex.ret) (ptl_T1 nm gs cs n k T U w g y a b r p q os m W u v s sx sy n0 hf t) (ptl_H1 nm gs cs n k T U w g y a b r p q os m W u v s sx sy n0 hf t) := by
  refine Runs.post (t1 := (catV [V.yld 16, .ptr 14 0, .ptr 15 0, uV, iV (2 * hf), iV t, V.raw (.agg { toList := [.int .i64 y, .int .i64 y, .int .i64 (w - y), .int .i64 (g - y)] }), iV hf, iV (2 * hf), V.raw (.agg { toList := [.int .i64 y, .int .i64 y, .int .i64 (w - y), .int .i64 (g - y)] }), iV hf, iV (hf + 1), iV t, V.raw (.bool (decide (t < hf + 1))), iV t, V.yld 16, V.raw (.agg { toList := [.int .i64 y, .int .i64 y, .int .i64 (w - y), .int .i64 (g - y)] }), iV n0, iV t, iV (n0 + t), iV (2 * hf), iV ((n0 + t).tmod (2 * hf)), V.raw (.agg { toList := [.int .i64 (M.yX y y (w - y) (g - y) ((n0 + t).tmod (2 * hf))), .int .i64 (M.yY y y (w - y) (g - y) ((n0 + t).tmod (2 * hf)))] }), V.raw (.bool false), V.raw (.bool true), V.raw (.bool true)] (repU 12 [V.raw (.bool true), .any 39]))) (h1 := [bkG gs T, bkI cs U, bkI os W, bkW nm w g y n a b r p q k, bkP u v, some (.cells [iV s] 2 .rw), some (.cells [.slo 2 m] 32 .rw), some (.cells (zq214 y w g n0 t hf) 24 .rw), some (.cells [iV 0] 33 .rw), some (.cells [iV u, iV v] 24 (.row 2)), bkW nm w g y n a b r p q k, some (.cells [iV y, iV y, iV (w - y), iV (g - y)] 89 .rw), some (.cells [iV y, iV y, iV (w - y), iV (g - y)] 89 .rw), bkP sx sy, some (.cells [iV y, iV y, iV (w - y), iV (g - y)] 89 .rw), some (.cells [iV n0] 2 .rw), some (Blk.rcd { t := (zq31 nm w g y n a b r p q k u v s m sx sy n0), f := 39, i := 0, st := RSt.done Ex.ret }), some (.cells (zq214 y w g n0 t hf) 24 .rw), some (.cells (zq214 y w g n0 t hf) 24 .rw), some (.cells (zq207 y w g n0 t hf s) 26 .rw)]) (body_of cfx_mixed cfx_call zz (rnd := none) (fi := 0) (k := 0) (n := 40) (n0 := 17) (ans := [zT, Ans.olds [(8, 26), (8, 24), (8, 16), (8, 14), (8, 12), (8, 10), (8, 8), (8, 6), (8, 32)], Ans.ret (V.raw (.agg { toList := [.int .i64 (M.yX y y (w - y) (g - y) ((n0 + t).tmod (2 * hf))), .int .i64 (M.yY y y (w - y) (g - y) ((n0 + t).tmod (2 * hf)))] })), Ans.olds [], Ans.go, Ans.reth (V.raw (.bool (M.tchA os m (M.yX y y (w - y) (g - y) ((n0 + t).tmod (2 * hf))) (M.yY y y (w - y) (g - y) ((n0 + t).tmod (2 * hf))) s))) (zq34 gs T cs U os W nm w g y n a b r p q k u v s m sx sy n0 t hf), zT, zT, zT, zT, zT, zT, zT, zT, zT, zT, zT, zT, zT, zT, zT]) (cons := [(decide (t < hf + 1) = true), (inR IntKind.i64 (n0 + t)), (2 * hf ≠ 0), ((zq130 y w g n0 t hf)), ((zq10 m gs T cs U os W nm w g y n a b r p q k u v s sx sy n0 t hf)), ((!M.tchA os m (M.yX y y (w - y) (g - y) ((n0 + t).tmod (2 * hf))) (M.yY y y (w - y) (g - y) ((n0 + t).tmod (2 * hf))) s) = true), (true = true), (true = true), (true = true), (true = true), (true = true), (true = true), (true = true), (true = true), (true = true), (true = true), (true = true), (true = true), (true = true), (true = true)]) zk
    ⟨zdo, inR_i64 zo zo, zds, (lnAt _ _ _ _ _ zo zo), (by exact below_ro (lim := 0) (N := []) rfl rfl (fun k => if k = 0 then 2 else 19) (fun _ => false) (lnContains _ _ _ _ _ _ hz hm1 (hpl _ hta.1 hta.2) hq2) ⟨⟨_, _, rfl, ints_all _, .inl ⟨rfl, _, rfl⟩⟩, ⟨_, _, rfl, rfl, .inl ⟨rfl, _, rfl⟩⟩, trivial⟩ (fun _ _ => rfl) rfl rfl rfl (fun k X h => by simp at h) zz), zdf, rfl, rfl, rfl, rfl, rfl, rfl, rfl, rfl, rfl, rfl, rfl, rfl, rfl, rfl, trivial⟩ zb zb noRnd (noRanges zk)) zt8
def ptl_T2 (nm : ByteArray) (gs cs : List Int) (n k : Nat) (T U : Nat) (w g y a b r p q : Int) (os : List Int) (m : Nat) (W : Nat) (u v s : Int) (sx sy n0 hf : Int) (t : Int) : List V := (zq84 hf y w g t)
abbrev zq202 (y : Int) (w : Int) (g : Int) (n0 : Int) (t : Int) (hf : Int) : List V := [iV (M.yX y y (w - y) (g - y) ((n0 - t + 2 * hf).tmod (2 * hf))), iV (M.yY y y (w - y) (g - y) ((n0 - t + 2 * hf).tmod (2 * hf)))]
def ptl_H2 (nm : ByteArray) (gs cs : List Int) (n k : Nat) (T U : Nat) (w g y a b r p q : Int) (os : List Int) (m : Nat) (W : Nat) (u v s : Int) (sx sy n0 hf : Int) (t : Int) : Heap := [bkG gs T, bkI cs U, bkI os W, bkW nm w g y n a b r p q k, bkP u v, some (.cells [iV s] 2 .rw), some (.cells [.slo 2 m] 32 .rw), some (.cells (zq202 y w g n0 t hf) 24 .rw), some (.cells [iV 0] 33 .rw), some (.cells [iV u, iV v] 24 (.row 2)), bkW nm w g y n a b r p q k, some (.cells [iV y, iV y, iV (w - y), iV (g - y)] 89 .rw), some (.cells [iV y, iV y, iV (w - y), iV (g - y)] 89 .rw), bkP sx sy, some (.cells [iV y, iV y, iV (w - y), iV (g - y)] 89 .rw), some (.cells [iV n0] 2 .rw), some (Blk.rcd { t := (zq31 nm w g y n a b r p q k u v s m sx sy n0), f := 39, i := 0, st := RSt.done Ex.ret })]
abbrev zq233 (gs : List Int) (T : Nat) (cs : List Int) (U : Nat) (os : List Int) (W : Nat) (nm : ByteArray) (w : Int) (g : Int) (y : Int) (n : Nat) (a : Int) (b : Int) (r : Int) (p : Int) (q : Int) (k : Nat) (u : Int) (v : Int) (s : Int) (m : Nat) (sx : Int) (sy : Int) (n0 : Int) (t : Int) (hf : Int) : Heap := [bkG gs T, bkI cs U, bkI os W, some (.cells (lwC nm w g y n a b r p q k) 29 .ro), some (.cells [iV u, iV v] 24 .ro), some (.cells [iV s] 2 .ro), some (.cells [.slo 2 m] 32 .ro), some (.cells [iV 0, iV 0] 24 .ro), some (.cells [iV 0] 33 .ro), some (.cells [iV u, iV v] 24 .ro), some (.cells (lwC nm w g y n a b r p q k) 29 .ro), some (.cells [iV y, iV y, iV (w - y), iV (g - y)] 89 .ro), some (.cells [iV y, iV y, iV (w - y), iV (g - y)] 89 .ro), some (.cells [iV sx, iV sy] 24 .ro), some (.cells [iV y, iV y, iV (w - y), iV (g - y)] 89 .ro), some (.cells [iV n0] 2 .ro), none, some (.cells (zq262 y w g n0 t hf) 24 .ro), some (.cells (zq262 y w g n0 t hf) 24 .ro), some (.cells [iV (M.yX y y (w - y) (g - y) ((n0 + t).tmod (2 * hf))), iV (M.yY y y (w - y) (g - y) ((n0 + t).tmod (2 * hf))), iV s] 26 .ro), some (.cells [iV (M.yX y y (w - y) (g - y) ((n0 - t + 2 * hf).tmod (2 * hf))), iV (M.yY y y (w - y) (g - y) ((n0 - t + 2 * hf).tmod (2 * hf)))] 24 .ro), some (.cells [iV (M.yX y y (w - y) (g - y) ((n0 - t + 2 * hf).tmod (2 * hf))), iV (M.yY y y (w - y) (g - y) ((n0 - t + 2 * hf).tmod (2 * hf)))] 24 .ro), some (.cells [iV (M.yX y y (w - y) (g - y) ((n0 - t + 2 * hf).tmod (2 * hf))), iV (M.yY y y (w - y) (g - y) ((n0 - t + 2 * hf).tmod (2 * hf))), iV s] 26 .ro)]
abbrev zq4 (m : Nat) (gs : List Int) (T : Nat) (cs : List Int) (U : Nat) (os : List Int) (W : Nat) (nm : ByteArray) (w : Int) (g : Int) (y : Int) (n : Nat) (a : Int) (b : Int) (r : Int) (p : Int) (q : Int) (k : Nat) (u : Int) (v : Int) (s : Int) (sx : Int) (sy : Int) (n0 : Int) (t : Int) (hf : Int) : Prop := Meets cfx 0 78 [.slo 2 m, V.fn (Fn.func 106) [] [.ptr 22 0]] (zq233 gs T cs U os W nm w g y n a b r p q k u v s m sx sy n0 t hf) (V.raw (.bool (M.tchA os m (M.yX y y (w - y) (g - y) ((n0 - t + 2 * hf).tmod (2 * hf))) (M.yY y y (w - y) (g - y) ((n0 - t + 2 * hf).tmod (2 * hf))) s))) (zq233 gs T cs U os W nm w g y n a b r p q k u v s m sx sy n0 t hf)
abbrev zq26 (gs : List Int) (T : Nat) (cs : List Int) (U : Nat) (os : List Int) (W : Nat) (nm : ByteArray) (w : Int) (g : Int) (y : Int) (n : Nat) (a : Int) (b : Int) (r : Int) (p : Int) (q : Int) (k : Nat) (u : Int) (v : Int) (s : Int) (m : Nat) (sx : Int) (sy : Int) (n0 : Int) (t : Int) (hf : Int) : Heap := (zq233 gs T cs U os W nm w g y n a b r p q k u v s m sx sy n0 t hf)
abbrev zq119 (y : Int) (w : Int) (g : Int) (n0 : Int) (t : Int) (hf : Int) : Prop := Ret cfx 65 [V.raw (.agg { toList := [.int .i64 y, .int .i64 y, .int .i64 (w - y), .int .i64 (g - y)] }), iV ((n0 - t + 2 * hf).tmod (2 * hf))] (V.raw (.agg { toList := [.int .i64 (M.yX y y (w - y) (g - y) ((n0 - t + 2 * hf).tmod (2 * hf))), .int .i64 (M.yY y y (w - y) (g - y) ((n0 - t + 2 * hf).tmod (2 * hf)))] }))
abbrev zq197 (y : Int) (w : Int) (g : Int) (n0 : Int) (t : Int) (hf : Int) (s : Int) : List V := [iV (M.yX y y (w - y) (g - y) ((n0 - t + 2 * hf).tmod (2 * hf))), iV (M.yY y y (w - y) (g - y) ((n0 - t + 2 * hf).tmod (2 * hf))), iV s]
theorem ptl_2 (os : List Int) (m : Nat) (W : Nat) (u v s : Int) (hz : m * 3 ≤ os.length) (hB : (zq129 nm w g y n a b r p q k s m gs T cs U os W u v)) (hm1 : m ≤ 1000) (sx sy n0 hf : Int) (hsp : (zq187 y w g u v sx sy)) (hha : (zq193 y w g sx sy)) (hnu : (zq192 y w g sx sy n0)) (hhf : (zq215 y w g hf)) (hwg : (0 ≤ w ∧ w ≤ 4194304) ∧ (0 ≤ g ∧ g ≤ 4194304) ∧ (0 ≤ y ∧ y ≤ 1048576)) (hn0 : 0 ≤ n0 ∧ n0 ≤ 16777216) (hf0 : 1 ≤ hf ∧ hf ≤ 8388608) (hq2 : ∀ i : Nat, i < m → chkDisc (at' os (i * 3)) (at' os (i * 3 + 1)) (at' os (i * 3 + 2)) = 0) (hpl : ∀ j : Int, 0 ≤ j → j < 2 * hf → chkDisc (M.yX y y (w - y) (g - y) j) (M.yY y y (w - y) (g - y) j) s = 0) (t : Int) (ht : 0 ≤ t) (ht2 : t ≤ 8388609) (hta : 0 ≤ ((n0 + t).tmod (2 * hf)) ∧ ((n0 + t).tmod (2 * hf)) < 2 * hf) (htb : 0 ≤ ((n0 - t + 2 * hf).tmod (2 * hf)) ∧ ((n0 - t + 2 * hf).tmod (2 * hf)) < 2 * hf) (f0 : t < hf + 1) (f1 : M.tchA os m (M.yX y y (w - y) (g - y) ((n0 + t).tmod (2 * hf))) (M.yY y y (w - y) (g - y) ((n0 + t).tmod (2 * hf))) s = true) (f2 : M.tchA os m (M.yX y y (w - y) (g - y) ((n0 - t + 2 * hf).tmod (2 * hf))) (M.yY y y (w - y) (g - y) ((n0 - t + 2 * hf).tmod (2 * hf))) s = false) : Runs cfx 0 17 none (loopOf cfx.P 109 0) (ptl_T nm gs cs n k T U w g y a b r p q os m W u v s sx sy n0 hf t) (ptl_H nm gs cs n k T U w g y a b r p q os m W u v s sx sy n0 hf t) (Ex.ret) (ptl_T2 nm gs cs n k T U w g y a b r p q os m W u v s sx sy n0 hf t) (ptl_H2 nm gs cs n k T U w g y a b r p q os m W u v s sx sy n0 hf t) := by
  refine Runs.post (t1 := [V.yld 16, .ptr 14 0, .ptr 15 0, uV, iV (2 * hf), iV t, V.raw (.agg { toList := [.int .i64 y, .int .i64 y, .int .i64 (w - y), .int .i64 (g - y)] }), iV hf, iV (2 * hf), V.raw (.agg { toList := [.int .i64 y, .int .i64 y, .int .i64 (w - y), .int .i64 (g - y)] }), iV hf, iV (hf + 1), iV t, V.raw (.bool (decide (t < hf + 1))), iV t, V.yld 16, V.raw (.agg { toList := [.int .i64 y, .int .i64 y, .int .i64 (w - y), .int .i64 (g - y)] }), iV n0, iV t, iV (n0 + t), iV (2 * hf), iV ((n0 + t).tmod (2 * hf)), V.raw (.agg { toList := [.int .i64 (M.yX y y (w - y) (g - y) ((n0 + t).tmod (2 * hf))), .int .i64 (M.yY y y (w - y) (g - y) ((n0 + t).tmod (2 * hf)))] }), V.raw (.bool true), V.raw (.bool false), V.raw (.bool false), V.yld 16, V.raw (.agg { toList := [.int .i64 y, .int .i64 y, .int .i64 (w - y), .int .i64 (g - y)] }), iV n0, iV t, iV (n0 - t), iV (2 * hf), iV (n0 - t + 2 * hf), iV (2 * hf), iV ((n0 - t + 2 * hf).tmod (2 * hf)), V.raw (.agg { toList := [.int .i64 (M.yX y y (w - y) (g - y) ((n0 - t + 2 * hf).tmod (2 * hf))), .int .i64 (M.yY y y (w - y) (g - y) ((n0 - t + 2 * hf).tmod (2 * hf)))] }), V.raw (.bool false), V.raw (.bool true), V.raw (.bool true), .any 39]) (h1 := [bkG gs T, bkI cs U, bkI os W, bkW nm w g y n a b r p q k, bkP u v, some (.cells [iV s] 2 .rw), some (.cells [.slo 2 m] 32 .rw), some (.cells (zq202 y w g n0 t hf) 24 .rw), some (.cells [iV 0] 33 .rw), some (.cells [iV u, iV v] 24 (.row 2)), bkW nm w g y n a b r p q k, some (.cells [iV y, iV y, iV (w - y), iV (g - y)] 89 .rw), some (.cells [iV y, iV y, iV (w - y), iV (g - y)] 89 .rw), bkP sx sy, some (.cells [iV y, iV y, iV (w - y), iV (g - y)] 89 .rw), some (.cells [iV n0] 2 .rw), some (Blk.rcd { t := (zq31 nm w g y n a b r p q k u v s m sx sy n0), f := 39, i := 0, st := RSt.done Ex.ret }), some (.cells (zq214 y w g n0 t hf) 24 .rw), some (.cells (zq214 y w g n0 t hf) 24 .rw), some (.cells (zq207 y w g n0 t hf s) 26 .rw), some (.cells (zq202 y w g n0 t hf) 24 .rw), some (.cells (zq202 y w g n0 t hf) 24 .rw), some (.cells (zq197 y w g n0 t hf s) 26 .rw)]) (body_of cfx_mixed cfx_call zz (rnd := none) (fi := 0) (k := 0) (n := 40) (n0 := 17) (ans := [zT, Ans.olds [(21, 26), (21, 24), (21, 16), (21, 14), (21, 12), (21, 10), (21, 8), (21, 6), (21, 32), (8, 26), (8, 24), (8, 16), (8, 14), (8, 12), (8, 10), (8, 8), (8, 6), (8, 32)], Ans.ret (V.raw (.agg { toList := [.int .i64 (M.yX y y (w - y) (g - y) ((n0 + t).tmod (2 * hf))), .int .i64 (M.yY y y (w - y) (g - y) ((n0 + t).tmod (2 * hf)))] })), Ans.olds [], Ans.go, Ans.reth (V.raw (.bool (M.tchA os m (M.yX y y (w - y) (g - y) ((n0 + t).tmod (2 * hf))) (M.yY y y (w - y) (g - y) ((n0 + t).tmod (2 * hf))) s))) (zq34 gs T cs U os W nm w g y n a b r p q k u v s m sx sy n0 t hf), zF, zF, zF, zF, zF, zF, zF, zF, zF, zF, zF, Ans.ret (V.raw (.agg { toList := [.int .i64 (M.yX y y (w - y) (g - y) ((n0 - t + 2 * hf).tmod (2 * hf))), .int .i64 (M.yY y y (w - y) (g - y) ((n0 - t + 2 * hf).tmod (2 * hf)))] })), zF, Ans.olds [], Ans.go, Ans.reth (V.raw (.bool (M.tchA os m (M.yX y y (w - y) (g - y) ((n0 - t + 2 * hf).tmod (2 * hf))) (M.yY y y (w - y) (g - y) ((n0 - t + 2 * hf).tmod (2 * hf))) s))) (zq26 gs T cs U os W nm w g y n a b r p q k u v s m sx sy n0 t hf), zT, zF, zF, zT]) (cons := [(decide (t < hf + 1) = true), (inR IntKind.i64 (n0 + t)), (2 * hf ≠ 0), ((zq130 y w g n0 t hf)), ((zq10 m gs T cs U os W nm w g y n a b r p q k u v s sx sy n0 t hf)), ((!M.tchA os m (M.yX y y (w - y) (g - y) ((n0 + t).tmod (2 * hf))) (M.yY y y (w - y) (g - y) ((n0 + t).tmod (2 * hf))) s) = false), (false = false), (false = false), (false = false), (false = false), (false = false), (inR IntKind.i64 (n0 - t)), (false = false), (false = false), (inR IntKind.i64 (n0 - t + 2 * hf)), (false = false), (false = false), (2 * hf ≠ 0), (false = false), ((zq119 y w g n0 t hf)), (false = false), ((zq4 m gs T cs U os W nm w g y n a b r p q k u v s sx sy n0 t hf)), ((!M.tchA os m (M.yX y y (w - y) (g - y) ((n0 - t + 2 * hf).tmod (2 * hf))) (M.yY y y (w - y) (g - y) ((n0 - t + 2 * hf).tmod (2 * hf))) s) = true), (false = false), (false = false), (true = true)]) zk
    ⟨zdo, inR_i64 zo zo, zds, (lnAt _ _ _ _ _ zo zo), (by exact below_ro (lim := 0) (N := []) rfl rfl (fun k => if k = 0 then 2 else 19) (fun _ => false) (lnContains _ _ _ _ _ _ hz hm1 (hpl _ hta.1 hta.2) hq2) ⟨⟨_, _, rfl, ints_all _, .inl ⟨rfl, _, rfl⟩⟩, ⟨_, _, rfl, rfl, .inl ⟨rfl, _, rfl⟩⟩, trivial⟩ (fun _ _ => rfl) rfl rfl rfl (fun k X h => by simp at h) zz), zdf, rfl, rfl, rfl, rfl, rfl, inR_i64 zo zo, rfl, rfl, inR_i64 zo zo, rfl, rfl, zds, rfl, (lnAt _ _ _ _ _ zo zo), rfl, (by exact below_ro (lim := 0) (N := []) rfl rfl (fun k => if k = 0 then 2 else 22) (fun _ => false) (lnContains _ _ _ _ _ _ hz hm1 (hpl _ htb.1 htb.2) hq2) ⟨⟨_, _, rfl, ints_all _, .inl ⟨rfl, _, rfl⟩⟩, ⟨_, _, rfl, rfl, .inl ⟨rfl, _, rfl⟩⟩, trivial⟩ (fun _ _ => rfl) rfl rfl rfl (fun k X h => by simp at h) zz), zdf, rfl, rfl, rfl, trivial⟩ zb zb noRnd (noRanges zk)) zt8
theorem ptl_3 (os : List Int) (m : Nat) (W : Nat) (u v s : Int) (hz : m * 3 ≤ os.length) (hB : (zq129 nm w g y n a b r p q k s m gs T cs U os W u v)) (hm1 : m ≤ 1000) (sx sy n0 hf : Int) (hsp : (zq187 y w g u v sx sy)) (hha : (zq193 y w g sx sy)) (hnu : (zq192 y w g sx sy n0)) (hhf : (zq215 y w g hf)) (hwg : (0 ≤ w ∧ w ≤ 4194304) ∧ (0 ≤ g ∧ g ≤ 4194304) ∧ (0 ≤ y ∧ y ≤ 1048576)) (hn0 : 0 ≤ n0 ∧ n0 ≤ 16777216) (hf0 : 1 ≤ hf ∧ hf ≤ 8388608) (hq2 : ∀ i : Nat, i < m → chkDisc (at' os (i * 3)) (at' os (i * 3 + 1)) (at' os (i * 3 + 2)) = 0) (hpl : ∀ j : Int, 0 ≤ j → j < 2 * hf → chkDisc (M.yX y y (w - y) (g - y) j) (M.yY y y (w - y) (g - y) j) s = 0) (t : Int) (ht : 0 ≤ t) (ht2 : t ≤ 8388609) (hta : 0 ≤ ((n0 + t).tmod (2 * hf)) ∧ ((n0 + t).tmod (2 * hf)) < 2 * hf) (htb : 0 ≤ ((n0 - t + 2 * hf).tmod (2 * hf)) ∧ ((n0 - t + 2 * hf).tmod (2 * hf)) < 2 * hf) (f0 : t < hf + 1) (f1 : M.tchA os m (M.yX y y (w - y) (g - y) ((n0 + t).tmod (2 * hf))) (M.yY y y (w - y) (g - y) ((n0 + t).tmod (2 * hf))) s = true) (f2 : M.tchA os m (M.yX y y (w - y) (g - y) ((n0 - t + 2 * hf).tmod (2 * hf))) (M.yY y y (w - y) (g - y) ((n0 - t + 2 * hf).tmod (2 * hf))) s = true) : Runs cfx 0 17 none (loopOf cfx.P 109 0) (ptl_T nm gs cs n k T U w g y a b r p q os m W u v s sx sy n0 hf t) (ptl_H nm gs cs n k T U w g y a b r p q os m W u v s sx sy n0 hf t) (Ex.normal) (ptl_T nm gs cs n k T U w g y a b r p q os m W u v s sx sy n0 hf (t + 1)) (ptl_H nm gs cs n k T U w g y a b r p q os m W u v s sx sy n0 hf (t + 1)) := by
  refine Runs.post (t1 := [V.yld 16, .ptr 14 0, .ptr 15 0, uV, iV (2 * hf), iV t, V.raw (.agg { toList := [.int .i64 y, .int .i64 y, .int .i64 (w - y), .int .i64 (g - y)] }), iV hf, iV (2 * hf), V.raw (.agg { toList := [.int .i64 y, .int .i64 y, .int .i64 (w - y), .int .i64 (g - y)] }), iV hf, iV (hf + 1), iV (t + 1), V.raw (.bool (decide (t < hf + 1))), iV t, V.yld 16, V.raw (.agg { toList := [.int .i64 y, .int .i64 y, .int .i64 (w - y), .int .i64 (g - y)] }), iV n0, iV t, iV (n0 + t), iV (2 * hf), iV ((n0 + t).tmod (2 * hf)), V.raw (.agg { toList := [.int .i64 (M.yX y y (w - y) (g - y) ((n0 + t).tmod (2 * hf))), .int .i64 (M.yY y y (w - y) (g - y) ((n0 + t).tmod (2 * hf)))] }), V.raw (.bool true), V.raw (.bool false), V.raw (.bool false), V.yld 16, V.raw (.agg { toList := [.int .i64 y, .int .i64 y, .int .i64 (w - y), .int .i64 (g - y)] }), iV n0, iV t, iV (n0 - t), iV (2 * hf), iV (n0 - t + 2 * hf), iV (2 * hf), iV ((n0 - t + 2 * hf).tmod (2 * hf)), V.raw (.agg { toList := [.int .i64 (M.yX y y (w - y) (g - y) ((n0 - t + 2 * hf).tmod (2 * hf))), .int .i64 (M.yY y y (w - y) (g - y) ((n0 - t + 2 * hf).tmod (2 * hf)))] }), V.raw (.bool true), V.raw (.bool false), V.raw (.bool false), iV (t + 1)]) (h1 := [bkG gs T, bkI cs U, bkI os W, bkW nm w g y n a b r p q k, bkP u v, some (.cells [iV s] 2 .rw), some (.cells [.slo 2 m] 32 .rw), bkP 0 0, some (.cells [iV 0] 33 .rw), some (.cells [iV u, iV v] 24 (.row 2)), bkW nm w g y n a b r p q k, some (.cells [iV y, iV y, iV (w - y), iV (g - y)] 89 .rw), some (.cells [iV y, iV y, iV (w - y), iV (g - y)] 89 .rw), bkP sx sy, some (.cells [iV y, iV y, iV (w - y), iV (g - y)] 89 .rw), some (.cells [iV n0] 2 .rw), some (Blk.rcd { t := (zq31 nm w g y n a b r p q k u v s m sx sy n0), f := 39, i := 0, st := RSt.ready }), some (.cells (zq214 y w g n0 t hf) 24 .rw), some (.cells (zq214 y w g n0 t hf) 24 .rw), some (.cells (zq207 y w g n0 t hf s) 26 .rw), some (.cells (zq202 y w g n0 t hf) 24 .rw), some (.cells (zq202 y w g n0 t hf) 24 .rw), some (.cells (zq197 y w g n0 t hf s) 26 .rw)]) (body_of cfx_mixed cfx_call zz (rnd := none) (fi := 0) (k := 0) (n := 40) (n0 := 17) (ans := [zT, Ans.olds [(21, 26), (21, 24), (21, 16), (21, 14), (21, 12), (21, 10), (21, 8), (21, 6), (21, 32), (8, 26), (8, 24), (8, 16), (8, 14), (8, 12), (8, 10), (8, 8), (8, 6), (8, 32)], Ans.ret (V.raw (.agg { toList := [.int .i64 (M.yX y y (w - y) (g - y) ((n0 + t).tmod (2 * hf))), .int .i64 (M.yY y y (w - y) (g - y) ((n0 + t).tmod (2 * hf)))] })), Ans.olds [], Ans.go, Ans.reth (V.raw (.bool (M.tchA os m (M.yX y y (w - y) (g - y) ((n0 + t).tmod (2 * hf))) (M.yY y y (w - y) (g - y) ((n0 + t).tmod (2 * hf))) s))) (zq34 gs T cs U os W nm w g y n a b r p q k u v s m sx sy n0 t hf), zF, zF, zF, zF, zF, zF, zF, zF, zF, zF, zF, Ans.ret (V.raw (.agg { toList := [.int .i64 (M.yX y y (w - y) (g - y) ((n0 - t + 2 * hf).tmod (2 * hf))), .int .i64 (M.yY y y (w - y) (g - y) ((n0 - t + 2 * hf).tmod (2 * hf)))] })), zF, Ans.olds [], Ans.go, Ans.reth (V.raw (.bool (M.tchA os m (M.yX y y (w - y) (g - y) ((n0 - t + 2 * hf).tmod (2 * hf))) (M.yY y y (w - y) (g - y) ((n0 - t + 2 * hf).tmod (2 * hf))) s))) (zq26 gs T cs U os W nm w g y n a b r p q k u v s m sx sy n0 t hf), zF, zF, zF, zF]) (cons := [(decide (t < hf + 1) = true), (inR IntKind.i64 (n0 + t)), (2 * hf ≠ 0), ((zq130 y w g n0 t hf)), ((zq10 m gs T cs U os W nm w g y n a b r p q k u v s sx sy n0 t hf)), ((!M.tchA os m (M.yX y y (w - y) (g - y) ((n0 + t).tmod (2 * hf))) (M.yY y y (w - y) (g - y) ((n0 + t).tmod (2 * hf))) s) = false), (false = false), (false = false), (false = false), (false = false), (false = false), (inR IntKind.i64 (n0 - t)), (false = false), (false = false), (inR IntKind.i64 (n0 - t + 2 * hf)), (false = false), (false = false), (2 * hf ≠ 0), (false = false), ((zq119 y w g n0 t hf)), (false = false), ((zq4 m gs T cs U os W nm w g y n a b r p q k u v s sx sy n0 t hf)), ((!M.tchA os m (M.yX y y (w - y) (g - y) ((n0 - t + 2 * hf).tmod (2 * hf))) (M.yY y y (w - y) (g - y) ((n0 - t + 2 * hf).tmod (2 * hf))) s) = false), (false = false), (false = false), (false = false), (inR IntKind.i64 (t + 1))]) zk
    ⟨zdo, inR_i64 zo zo, zds, (lnAt _ _ _ _ _ zo zo), (by exact below_ro (lim := 0) (N := []) rfl rfl (fun k => if k = 0 then 2 else 19) (fun _ => false) (lnContains _ _ _ _ _ _ hz hm1 (hpl _ hta.1 hta.2) hq2) ⟨⟨_, _, rfl, ints_all _, .inl ⟨rfl, _, rfl⟩⟩, ⟨_, _, rfl, rfl, .inl ⟨rfl, _, rfl⟩⟩, trivial⟩ (fun _ _ => rfl) rfl rfl rfl (fun k X h => by simp at h) zz), zdf, rfl, rfl, rfl, rfl, rfl, inR_i64 zo zo, rfl, rfl, inR_i64 zo zo, rfl, rfl, zds, rfl, (lnAt _ _ _ _ _ zo zo), rfl, (by exact below_ro (lim := 0) (N := []) rfl rfl (fun k => if k = 0 then 2 else 22) (fun _ => false) (lnContains _ _ _ _ _ _ hz hm1 (hpl _ htb.1 htb.2) hq2) ⟨⟨_, _, rfl, ints_all _, .inl ⟨rfl, _, rfl⟩⟩, ⟨_, _, rfl, rfl, .inl ⟨rfl, _, rfl⟩⟩, trivial⟩ (fun _ _ => rfl) rfl rfl rfl (fun k X h => by simp at h) zz), zdf, rfl, rfl, rfl, inR_i64 zo zo, trivial⟩ zb zb noRnd (noRanges zk)) zt8
def ptl_T4 (nm : ByteArray) (gs cs : List Int) (n k : Nat) (T U : Nat) (w g y a b r p q : Int) (os : List Int) (m : Nat) (W : Nat) (u v s : Int) (sx sy n0 hf : Int) (t : Int) : List V := (zq84 hf y w g t)
def ptl_H4 (nm : ByteArray) (gs cs : List Int) (n k : Nat) (T U : Nat) (w g y a b r p q : Int) (os : List Int) (m : Nat) (W : Nat) (u v s : Int) (sx sy n0 hf : Int) (t : Int) : Heap := (zq23 gs T cs U os W nm w g y n a b r p q k u v s m sx sy n0 t)
theorem ptl_4 (os : List Int) (m : Nat) (W : Nat) (u v s : Int) (hz : m * 3 ≤ os.length) (hB : (zq129 nm w g y n a b r p q k s m gs T cs U os W u v)) (hm1 : m ≤ 1000) (sx sy n0 hf : Int) (hsp : (zq187 y w g u v sx sy)) (hha : (zq193 y w g sx sy)) (hnu : (zq192 y w g sx sy n0)) (hhf : (zq215 y w g hf)) (hwg : (0 ≤ w ∧ w ≤ 4194304) ∧ (0 ≤ g ∧ g ≤ 4194304) ∧ (0 ≤ y ∧ y ≤ 1048576)) (hn0 : 0 ≤ n0 ∧ n0 ≤ 16777216) (hf0 : 1 ≤ hf ∧ hf ≤ 8388608) (hq2 : ∀ i : Nat, i < m → chkDisc (at' os (i * 3)) (at' os (i * 3 + 1)) (at' os (i * 3 + 2)) = 0) (hpl : ∀ j : Int, 0 ≤ j → j < 2 * hf → chkDisc (M.yX y y (w - y) (g - y) j) (M.yY y y (w - y) (g - y) j) s = 0) (t : Int) (ht : 0 ≤ t) (ht2 : t ≤ 8388609) (hta : 0 ≤ ((n0 + t).tmod (2 * hf)) ∧ ((n0 + t).tmod (2 * hf)) < 2 * hf) (htb : 0 ≤ ((n0 - t + 2 * hf).tmod (2 * hf)) ∧ ((n0 - t + 2 * hf).tmod (2 * hf)) < 2 * hf) (f0 : ¬t < hf + 1) : Runs cfx 0 17 none (loopOf cfx.P 109 0) (ptl_T nm gs cs n k T U w g y a b r p q os m W u v s sx sy n0 hf t) (ptl_H nm gs cs n k T U w g y a b r p q os m W u v s sx sy n0 hf t) (Ex.exit 0) (ptl_T4 nm gs cs n k T U w g y a b r p q os m W u v s sx sy n0 hf t) (ptl_H4 nm gs cs n k T U w g y a b r p q os m W u v s sx sy n0 hf t) := by
  refine Runs.post (t1 := (catV [V.yld 16, .ptr 14 0, .ptr 15 0, uV, iV (2 * hf), .any 5, V.raw (.agg { toList := [.int .i64 y, .int .i64 y, .int .i64 (w - y), .int .i64 (g - y)] }), iV hf, iV (2 * hf), V.raw (.agg { toList := [.int .i64 y, .int .i64 y, .int .i64 (w - y), .int .i64 (g - y)] }), iV hf, iV (hf + 1), iV t, V.raw (.bool (decide (t < hf + 1)))] (anyR 14 26 []))) (h1 := (zq23 gs T cs U os W nm w g y n a b r p q k u v s m sx sy n0 t)) (body_of cfx_mixed cfx_call zz (rnd := none) (fi := 0) (k := 0) (n := 40) (n0 := 17) (ans := [zF]) (cons := [(decide (t < hf + 1) = false)]) zk
    ⟨zdo, trivial⟩ zb zb noRnd (noRanges zk)) zt8
end Go.Proofs.Ytmelbcmfahcffaa
end
section
namespace Go.Proofs.Ytmelbcmfahcffaa
open Go Go.RowKit Go.Proofs.Ytmelbcmfahcffaa.E2
variable (nm : ByteArray) (gs cs : List Int) (n k : Nat) (T U : Nat) (w g y a b r p q : Int)
theorem tmod_in {x d : Int} (hx : 0 ≤ x) (hd : 0 < d) : 0 ≤ x.tmod d ∧ x.tmod d < d := ⟨Int.tmod_nonneg _ hx, Int.tmod_lt_of_pos _ hd⟩
theorem ptl_loop (os : List Int) (m : Nat) (W : Nat) (u v s : Int) (hz : m * 3 ≤ os.length) (hB : (zq129 nm w g y n a b r p q k s m gs T cs U os W u v)) (hm1 : m ≤ 1000) (sx sy n0 hf : Int) (hsp : (zq187 y w g u v sx sy)) (hha : (zq193 y w g sx sy)) (hnu : (zq192 y w g sx sy n0)) (hhf : (zq215 y w g hf)) (hwg : (0 ≤ w ∧ w ≤ 4194304) ∧ (0 ≤ g ∧ g ≤ 4194304) ∧ (0 ≤ y ∧ y ≤ 1048576)) (hn0 : 0 ≤ n0 ∧ n0 ≤ 16777216) (hf0 : 1 ≤ hf ∧ hf ≤ 8388608) (hq2 : ∀ i : Nat, i < m → chkDisc (at' os (i * 3)) (at' os (i * 3 + 1)) (at' os (i * 3 + 2)) = 0) (hpl : ∀ j : Int, 0 ≤ j → j < 2 * hf → chkDisc (M.yX y y (w - y) (g - y) j) (M.yY y y (w - y) (g - y) j) s = 0) : ((List.range (hf + 1).toNat).all (fun i : Nat => M.tchA os m (M.yX y y (w - y) (g - y) ((n0 + (i : Int)).tmod (2 * hf))) (M.yY y y (w - y) (g - y) ((n0 + (i : Int)).tmod (2 * hf))) s && M.tchA os m (M.yX y y (w - y) (g - y) ((n0 - (i : Int) + 2 * hf).tmod (2 * hf))) (M.yY y y (w - y) (g - y) ((n0 - (i : Int) + 2 * hf).tmod (2 * hf))) s) = true ∧ Runs cfx 0 17 none (.loop (loopOf cfx.P 109 0)) (ptl_T nm gs cs n k T U w g y a b r p q os m W u v s sx sy n0 hf 0) (ptl_H nm gs cs n k T U w g y a b r p q os m W u v s sx sy n0 hf 0) (.exit 0) (ptl_T4 nm gs cs n k T U w g y a b r p q os m W u v s sx sy n0 hf (hf + 1)) (ptl_H4 nm gs cs n k T U w g y a b r p q os m W u v s sx sy n0 hf (hf + 1))) ∨
    (∃ i : Nat, (i : Int) ≤ hf ∧ (∀ j : Nat, j < i → (M.tchA os m (M.yX y y (w - y) (g - y) ((n0 + (j : Int)).tmod (2 * hf))) (M.yY y y (w - y) (g - y) ((n0 + (j : Int)).tmod (2 * hf))) s && M.tchA os m (M.yX y y (w - y) (g - y) ((n0 - (j : Int) + 2 * hf).tmod (2 * hf))) (M.yY y y (w - y) (g - y) ((n0 - (j : Int) + 2 * hf).tmod (2 * hf))) s) = true) ∧ ((M.tchA os m (M.yX y y (w - y) (g - y) ((n0 + (i : Int)).tmod (2 * hf))) (M.yY y y (w - y) (g - y) ((n0 + (i : Int)).tmod (2 * hf))) s = false ∧ Runs cfx 0 17 none (.loop (loopOf cfx.P 109 0)) (ptl_T nm gs cs n k T U w g y a b r p q os m W u v s sx sy n0 hf 0) (ptl_H nm gs cs n k T U w g y a b r p q os m W u v s sx sy n0 hf 0) (.ret) (ptl_T1 nm gs cs n k T U w g y a b r p q os m W u v s sx sy n0 hf i) (ptl_H1 nm gs cs n k T U w g y a b r p q os m W u v s sx sy n0 hf i)) ∨ (M.tchA os m (M.yX y y (w - y) (g - y) ((n0 + (i : Int)).tmod (2 * hf))) (M.yY y y (w - y) (g - y) ((n0 + (i : Int)).tmod (2 * hf))) s = true ∧ M.tchA os m (M.yX y y (w - y) (g - y) ((n0 - (i : Int) + 2 * hf).tmod (2 * hf))) (M.yY y y (w - y) (g - y) ((n0 - (i : Int) + 2 * hf).tmod (2 * hf))) s = false ∧ Runs cfx 0 17 none (.loop (loopOf cfx.P 109 0)) (ptl_T nm gs cs n k T U w g y a b r p q os m W u v s sx sy n0 hf 0) (ptl_H nm gs cs n k T U w g y a b r p q os m W u v s sx sy n0 hf 0) (.ret) (ptl_T2 nm gs cs n k T U w g y a b r p q os m W u v s sx sy n0 hf i) (ptl_H2 nm gs cs n k T U w g y a b r p q os m W u v s sx sy n0 hf i)))) := by
  have hA : ∀ i : Nat, (i : Int) ≤ hf → 0 ≤ ((n0 + (i : Int)).tmod (2 * hf)) ∧ ((n0 + (i : Int)).tmod (2 * hf)) < 2 * hf := fun i hi => tmod_in zo zo
  have hB2 : ∀ i : Nat, (i : Int) ≤ hf → 0 ≤ ((n0 - (i : Int) + 2 * hf).tmod (2 * hf)) ∧ ((n0 - (i : Int) + 2 * hf).tmod (2 * hf)) < 2 * hf := fun i hi => tmod_in zo zo
  have hA3 : 0 ≤ ((n0 + (hf + 1)).tmod (2 * hf)) ∧ ((n0 + (hf + 1)).tmod (2 * hf)) < 2 * hf := tmod_in zo zo
  have hB3 : 0 ≤ ((n0 - (hf + 1) + 2 * hf).tmod (2 * hf)) ∧ ((n0 - (hf + 1) + 2 * hf).tmod (2 * hf)) < 2 * hf := tmod_in zo zo
  have hend : Runs cfx 0 17 none (loopOf cfx.P 109 0) (ptl_T nm gs cs n k T U w g y a b r p q os m W u v s sx sy n0 hf (((hf + 1).toNat : Nat) : Int)) (ptl_H nm gs cs n k T U w g y a b r p q os m W u v s sx sy n0 hf (((hf + 1).toNat : Nat) : Int)) (.exit 0) (ptl_T4 nm gs cs n k T U w g y a b r p q os m W u v s sx sy n0 hf (hf + 1)) (ptl_H4 nm gs cs n k T U w g y a b r p q os m W u v s sx sy n0 hf (hf + 1)) := by
    rw [show (((hf + 1).toNat : Nat) : Int) = hf + 1 by omega]
    exact ptl_4 nm gs cs n k T U w g y a b r p q os m W u v s hz hB hm1 sx sy n0 hf hsp hha hnu hhf hwg hn0 hf0 hq2 hpl (hf + 1) zo zo hA3 hB3 zo
  rcases upto_find (c := cfx) (lim := 0) (n0 := 17) (x := loopOf cfx.P 109 0) noRnd (fun i : Nat => M.tchA os m (M.yX y y (w - y) (g - y) ((n0 + (i : Int)).tmod (2 * hf))) (M.yY y y (w - y) (g - y) ((n0 + (i : Int)).tmod (2 * hf))) s && M.tchA os m (M.yX y y (w - y) (g - y) ((n0 - (i : Int) + 2 * hf).tmod (2 * hf))) (M.yY y y (w - y) (g - y) ((n0 - (i : Int) + 2 * hf).tmod (2 * hf))) s) (fun i : Nat => ptl_T nm gs cs n k T U w g y a b r p q os m W u v s sx sy n0 hf i) (fun i : Nat => ptl_H nm gs cs n k T U w g y a b r p q os m W u v s sx sy n0 hf i) (hf + 1).toNat (fun i : Nat => if M.tchA os m (M.yX y y (w - y) (g - y) ((n0 + (i : Int)).tmod (2 * hf))) (M.yY y y (w - y) (g - y) ((n0 + (i : Int)).tmod (2 * hf))) s = false then ptl_T1 nm gs cs n k T U w g y a b r p q os m W u v s sx sy n0 hf i else ptl_T2 nm gs cs n k T U w g y a b r p q os m W u v s sx sy n0 hf i) (fun i : Nat => if M.tchA os m (M.yX y y (w - y) (g - y) ((n0 + (i : Int)).tmod (2 * hf))) (M.yY y y (w - y) (g - y) ((n0 + (i : Int)).tmod (2 * hf))) s = false then ptl_H1 nm gs cs n k T U w g y a b r p q os m W u v s sx sy n0 hf i else ptl_H2 nm gs cs n k T U w g y a b r p q os m W u v s sx sy n0 hf i) (e := .exit 0) (e1 := .ret) (by simp) (by simp)
    (fun i hi hg => by
      rw [Bool.and_eq_true] at hg
      exact ptl_3 nm gs cs n k T U w g y a b r p q os m W u v s hz hB hm1 sx sy n0 hf hsp hha hnu hhf hwg hn0 hf0 hq2 hpl i zo zo (hA i zo) (hB2 i zo) zo hg.1 hg.2)
    (fun i hi hg => by
      cases h1 : M.tchA os m (M.yX y y (w - y) (g - y) ((n0 + (i : Int)).tmod (2 * hf))) (M.yY y y (w - y) (g - y) ((n0 + (i : Int)).tmod (2 * hf))) s with
      | false => rw [if_pos rfl, if_pos rfl]; exact ptl_1 nm gs cs n k T U w g y a b r p q os m W u v s hz hB hm1 sx sy n0 hf hsp hha hnu hhf hwg hn0 hf0 hq2 hpl i (by omega) (by omega) (hA i (by omega)) (hB2 i (by omega)) (by omega) h1
      | true =>
        rw [if_neg (by simp), if_neg (by simp)]
        rw [h1, Bool.true_and] at hg
        exact ptl_2 nm gs cs n k T U w g y a b r p q os m W u v s hz hB hm1 sx sy n0 hf hsp hha hnu hhf hwg hn0 hf0 hq2 hpl i zo zo (hA i zo) (hB2 i zo) zo h1 hg)
    hend with ⟨h1, h2⟩ | ⟨_, i, hi, h2, h3, h4⟩
  · exact .inl ⟨h1, h2⟩
  · refine .inr ⟨i, by omega, h3, ?_⟩
    cases h1 : M.tchA os m (M.yX y y (w - y) (g - y) ((n0 + (i : Int)).tmod (2 * hf))) (M.yY y y (w - y) (g - y) ((n0 + (i : Int)).tmod (2 * hf))) s with
    | false => rw [h1, if_pos rfl, if_pos rfl] at h4; exact .inl ⟨rfl, h4⟩
    | true =>
      rw [h1, Bool.true_and] at h2
      rw [h1, if_neg (by simp), if_neg (by simp)] at h4
      exact .inr ⟨rfl, h2, h4⟩
abbrev zq22 (gs : List Int) (T : Nat) (cs : List Int) (U : Nat) (os : List Int) (W : Nat) (nm : ByteArray) (w : Int) (g : Int) (y : Int) (n : Nat) (a : Int) (b : Int) (r : Int) (p : Int) (q : Int) (k : Nat) (u : Int) (v : Int) (s : Int) (m : Nat) (n0 : Int) (i : Nat) (hf : Int) (sx : Int) (sy : Int) : Heap := [bkG gs T, bkI cs U, bkI os W, bkW nm w g y n a b r p q k, bkP u v, some (.cells [iV s] 2 .rw), some (.cells [.slo 2 m] 32 .rw), some (.cells [iV (M.yX y y (w - y) (g - y) ((n0 + (i : Int)).tmod (2 * hf))), iV (M.yY y y (w - y) (g - y) ((n0 + (i : Int)).tmod (2 * hf)))] 24 .rw), some (.cells [iV 0] 33 .rw), some (.cells [iV u, iV v] 24 (.row 2)), bkW nm w g y n a b r p q k, some (.cells [iV y, iV y, iV (w - y), iV (g - y)] 89 .rw), some (.cells [iV y, iV y, iV (w - y), iV (g - y)] 89 .rw), bkP sx sy, some (.cells [iV y, iV y, iV (w - y), iV (g - y)] 89 .rw), some (.cells [iV n0] 2 .rw), some (Blk.rcd { t := (zq234 nm w g y n a b r p q k u v s m sx sy n0), f := 39, i := 0, st := RSt.done Ex.ret })]
abbrev zq24 (gs : List Int) (T : Nat) (cs : List Int) (U : Nat) (os : List Int) (W : Nat) (nm : ByteArray) (w : Int) (g : Int) (y : Int) (n : Nat) (a : Int) (b : Int) (r : Int) (p : Int) (q : Int) (k : Nat) (u : Int) (v : Int) (s : Int) (m : Nat) (sx : Int) (sy : Int) (n0 : Int) (i : Nat) : Heap := [bkG gs T, bkI cs U, bkI os W, bkW nm w g y n a b r p q k, bkP u v, some (.cells [iV s] 2 .rw), some (.cells [.slo 2 m] 32 .rw), bkP 0 0, some (.cells [iV 0] 33 .rw), some (.cells [iV u, iV v] 24 (.row 2)), bkW nm w g y n a b r p q k, some (.cells [iV y, iV y, iV (w - y), iV (g - y)] 89 .rw), some (.cells [iV y, iV y, iV (w - y), iV (g - y)] 89 .rw), bkP sx sy, some (.cells [iV y, iV y, iV (w - y), iV (g - y)] 89 .rw), some (.cells [iV n0] 2 .rw), some (Blk.rcd { t := (zq234 nm w g y n a b r p q k u v s m sx sy n0), f := 39, i := 0, st := RSt.ready })]
abbrev zq81 (hf : Int) (y : Int) (w : Int) (g : Int) (i : Nat) : List V := (catV [V.yld 16, .ptr 14 0, .ptr 15 0, uV, iV (2 * hf), .any 5, V.raw (.agg { toList := [.int .i64 y, .int .i64 y, .int .i64 (w - y), .int .i64 (g - y)] }), iV hf, iV (2 * hf), V.raw (.agg { toList := [.int .i64 y, .int .i64 y, .int .i64 (w - y), .int .i64 (g - y)] }), iV hf, iV (hf + 1), iV (i : Int)] (anyR 13 27 []))
abbrev zq103 (hf : Int) (y : Int) (w : Int) (g : Int) : List V := (catV [V.yld 16, .ptr 14 0, .ptr 15 0, uV, iV (2 * hf), uV, V.raw (.agg { toList := [.int .i64 y, .int .i64 y, .int .i64 (w - y), .int .i64 (g - y)] }), iV hf, iV (2 * hf), V.raw (.agg { toList := [.int .i64 y, .int .i64 y, .int .i64 (w - y), .int .i64 (g - y)] }), iV hf, iV (hf + 1), iV 0] (repU 27 []))
abbrev zq135 (gs : List Int) (T : Nat) (cs : List Int) (U : Nat) (os : List Int) (W : Nat) (nm : ByteArray) (w : Int) (g : Int) (y : Int) (n : Nat) (a : Int) (b : Int) (r : Int) (p : Int) (q : Int) (k : Nat) (u : Int) (v : Int) (s : Int) (m : Nat) : Heap := [bkG gs T, bkI cs U, bkI os W, bkW nm w g y n a b r p q k, bkP u v, some (.cells [iV s] 2 .rw), some (.cells [.slo 2 m] 32 .rw), bkP 0 0, some (.cells [iV 0] 33 .rw), some (.cells [iV u, iV v] 24 (.row 2))]
theorem put_one (os : List Int) (m : Nat) (W : Nat) (u v s : Int) (hz : m * 3 ≤ os.length) (hB : (zq129 nm w g y n a b r p q k s m gs T cs U os W u v)) (hm1 : m ≤ 1000) (sx sy n0 hf : Int) (hsp : (zq187 y w g u v sx sy)) (hha : (zq193 y w g sx sy)) (hnu : (zq192 y w g sx sy n0)) (hhf : (zq215 y w g hf)) (hwg : (0 ≤ w ∧ w ≤ 4194304) ∧ (0 ≤ g ∧ g ≤ 4194304) ∧ (0 ≤ y ∧ y ≤ 1048576)) (hn0 : 0 ≤ n0 ∧ n0 ≤ 16777216) (hf0 : 1 ≤ hf ∧ hf ≤ 8388608) (hq2 : ∀ i : Nat, i < m → chkDisc (at' os (i * 3)) (at' os (i * 3 + 1)) (at' os (i * 3 + 2)) = 0) (hpl : ∀ j : Int, 0 ≤ j → j < 2 * hf → chkDisc (M.yX y y (w - y) (g - y) j) (M.yY y y (w - y) (g - y) j) s = 0) (i : Nat) (hR : Runs cfx 0 17 none (.loop (loopOf cfx.P 109 0)) (ptl_T nm gs cs n k T U w g y a b r p q os m W u v s sx sy n0 hf 0) (ptl_H nm gs cs n k T U w g y a b r p q os m W u v s sx sy n0 hf 0) (.ret) (ptl_T1 nm gs cs n k T U w g y a b r p q os m W u v s sx sy n0 hf i) (ptl_H1 nm gs cs n k T U w g y a b r p q os m W u v s sx sy n0 hf i))  : Meets cfx 0 39 (zq223 nm w g y n a b r p q k u v s m) [bkG gs T, bkI cs U, bkI os W] (V.raw (.tuple { toList := [.agg { toList := [.int .i64 (M.yX y y (w - y) (g - y) ((n0 + (i : Int)).tmod (2 * hf))), .int .i64 (M.yY y y (w - y) (g - y) ((n0 + (i : Int)).tmod (2 * hf)))] }, .int .i64 0] })) [bkG gs T, bkI cs U, bkI os W] := by
  refine Meets.post (meets_ev cfx_mixed cfx_call zz zb (n := 40) (ans := [Ans.go, Ans.reth (iV 0) (zq135 gs T cs U os W nm w g y n a b r p q k u v s m), zF, Ans.go, Ans.ret (V.raw (.agg { toList := [.int .i64 sx, .int .i64 sy] })), Ans.ret (V.raw (.bool true)), zF, Ans.olds [], Ans.ret (iV n0), Ans.go, Ans.go, Ans.ret (iV hf), Ans.ret (iV hf), Ans.loop Ex.ret (zq81 hf y w g i) (zq22 gs T cs U os W nm w g y n a b r p q k u v s m n0 i hf sx sy)]) (v := V.raw (.tuple { toList := [.agg { toList := [.int .i64 (M.yX y y (w - y) (g - y) ((n0 + (i : Int)).tmod (2 * hf))), .int .i64 (M.yY y y (w - y) (g - y) ((n0 + (i : Int)).tmod (2 * hf)))] }, .int .i64 0] })) (h' := [bkG gs T, bkI cs U, bkI os W, bkW nm w g y n a b r p q k, bkP u v, some (.cells [iV s] 2 .rw), some (.cells [.slo 2 m] 32 .rw), some (.cells [iV (M.yX y y (w - y) (g - y) ((n0 + (i : Int)).tmod (2 * hf))), iV (M.yY y y (w - y) (g - y) ((n0 + (i : Int)).tmod (2 * hf)))] 24 .rw), some (.cells [iV 0] 33 .rw), some (.cells [iV u, iV v] 24 (.row 2)), bkW nm w g y n a b r p q k, some (.cells [iV y, iV y, iV (w - y), iV (g - y)] 89 .rw), some (.cells [iV y, iV y, iV (w - y), iV (g - y)] 89 .rw), bkP sx sy, some (.cells [iV y, iV y, iV (w - y), iV (g - y)] 89 .rw), some (.cells [iV n0] 2 .rw), none]) (cons := [(1 ≤ 9223372036854775807), (Meets cfx 0 71 [lwA nm w g y n a b r p q k, iV s, .slo 2 m, .slo 9 1] (zq135 gs T cs U os W nm w g y n a b r p q k u v s m) (iV 0) (zq135 gs T cs U os W nm w g y n a b r p q k u v s m)), (false = false), (inR IntKind.i64 (w - y)), (inR IntKind.i64 (g - y)), (Ret cfx 62 [V.raw (.agg { toList := [.int .i64 y, .int .i64 y, .int .i64 (w - y), .int .i64 (g - y)] }), V.raw (.agg { toList := [.int .i64 u, .int .i64 v] })] (V.raw (.agg { toList := [.int .i64 sx, .int .i64 sy] }))), (Ret cfx 66 [V.raw (.agg { toList := [.int .i64 y, .int .i64 y, .int .i64 (w - y), .int .i64 (g - y)] }), V.raw (.agg { toList := [.int .i64 sx, .int .i64 sy] })] (V.raw (.bool true))), (false = false), (Ret cfx 67 [V.raw (.agg { toList := [.int .i64 y, .int .i64 y, .int .i64 (w - y), .int .i64 (g - y)] }), V.raw (.agg { toList := [.int .i64 sx, .int .i64 sy] })] (iV n0)), (Ret cfx 64 [V.raw (.agg { toList := [.int .i64 y, .int .i64 y, .int .i64 (w - y), .int .i64 (g - y)] })] (iV hf)), (inR IntKind.i64 (2 * hf)), (Ret cfx 64 [V.raw (.agg { toList := [.int .i64 y, .int .i64 y, .int .i64 (w - y), .int .i64 (g - y)] })] (iV hf)), (inR IntKind.i64 (hf + 1)), (Runs cfx 0 17 none (.loop (loopOf cfx.P 109 0)) (zq103 hf y w g) (zq24 gs T cs U os W nm w g y n a b r p q k u v s m sx sy n0 i) (Ex.ret) (zq81 hf y w g i) (zq22 gs T cs U os W nm w g y n a b r p q k u v s m n0 i hf sx sy))]) zk
    ⟨zds, (by exact below_ro (lim := 0) (N := []) rfl rfl (fun k => if k = 0 then 0 else if k = 1 then 1 else if k = 2 then 2 else 9) (fun _ => false) hB ⟨⟨_, _, rfl, mix_all _ _, .inl ⟨rfl, _, rfl⟩⟩, ⟨_, _, rfl, ints_all _, .inl ⟨rfl, _, rfl⟩⟩, ⟨_, _, rfl, ints_all _, .inl ⟨rfl, _, rfl⟩⟩, ⟨_, _, rfl, rfl, .inl ⟨rfl, _, rfl⟩⟩, trivial⟩ (fun _ _ => rfl) rfl rfl rfl (fun k X h => by simp at h) zz), rfl, inR_i64 zo zo, inR_i64 zo zo, (hsp), (hha), rfl, (hnu), (hhf), inR_i64 zo zo, (hhf), inR_i64 zo zo, (by
      refine Runs.pre (fun b e => by cases e) (fun RT RH => ?_) (hR)
      exact reshape2 (lim := 0) 17 (t := (zq103 hf y w g)) (h := (zq24 gs T cs U os W nm w g y n a b r p q k u v s m sx sy n0 i)) cfx_G rfl [] zk zk zdr RT RH), trivial⟩) zk zt1
end Go.Proofs.Ytmelbcmfahcffaa
end
section
namespace Go.Proofs.Ytmelbcmfahcffaa
open Go Go.RowKit Go.Proofs.Ytmelbcmfahcffaa.E2
theorem ex_mix : mix [false, false, false, false, true] [50000, 40000, 6000, 500, 0, 30000, 100000, 6000, 500, 1] = ([.raw (.int .i64 50000), .raw (.int .i64 40000), .raw (.int .i64 6000), .raw (.int .i64 500), .raw (.bool false), .raw (.int .i64 30000), .raw (.int .i64 100000), .raw (.int .i64 6000), .raw (.int .i64 500), .raw (.bool true)] : List V) := by kernel_rfl
theorem ex_ints : ints [100, 0, 0, 200, 5, -5] = ([.raw (.int .i64 100), .raw (.int .i64 0), .raw (.int .i64 0), .raw (.int .i64 200), .raw (.int .i64 5), .raw (.int .i64 (-5))] : List V) := by kernel_rfl
abbrev zq189 : Heap := [some (.cells (mix [false, false, false, false, true] [50000, 40000, 6000, 500, 0, 30000, 100000, 6000, 500, 1]) 71 .ro), some (.cells (ints [100, 0, 0, 200, 5, -5]) 39 .ro)]
theorem ex_check (nm : ByteArray) (hnm : nm.size ≤ 100) (hE : M.lawnE nm [50000, 40000, 6000, 500, 0, 30000, 100000, 6000, 500, 1] [100, 0, 0, 200, 5, -5] 2 2 100000 200000 5000 50000 100000 1200 2 1 = 0) : Meets cfx 0 52 [.agg [.raw (.string nm), .raw (.int .i64 100000), .raw (.int .i64 200000), .raw (.int .i64 5000), .slo 0 2, .raw (.int .i64 50000), .raw (.int .i64 100000), .raw (.int .i64 1200), .raw (.int .i64 2), .raw (.int .i64 1), .slo 1 2]] (zq189) (.raw (.int .i64 0)) (zq189) := by
  have h := lnCheck nm [50000, 40000, 6000, 500, 0, 30000, 100000, 6000, 500, 1] [100, 0, 0, 200, 5, -5] 2 2 71 39 100000 200000 5000 50000 100000 1200 2 1 (by decide) (by decide) (by decide) (by decide) hnm
  rw [hE] at h
  exact h
abbrev zq102 : Heap := [some (.cells [.raw (.int .i64 50000), .raw (.int .i64 40000), .raw (.int .i64 6000), .raw (.int .i64 500), .raw (.bool false), .raw (.int .i64 30000), .raw (.int .i64 100000), .raw (.int .i64 6000), .raw (.int .i64 500), .raw (.bool true)] 71 .ro), some (.cells [.raw (.int .i64 100), .raw (.int .i64 0), .raw (.int .i64 0), .raw (.int .i64 200), .raw (.int .i64 5), .raw (.int .i64 (-5))] 39 .ro)]
theorem ex_Stand (nm : ByteArray) (hnm : nm.size ≤ 100) (hE : M.lawnE nm [50000, 40000, 6000, 500, 0, 30000, 100000, 6000, 500, 1] [100, 0, 0, 200, 5, -5] 2 2 100000 200000 5000 50000 100000 1200 2 1 = 0) : Meets cfx 0 37 [.agg [.raw (.string nm), .raw (.int .i64 100000), .raw (.int .i64 200000), .raw (.int .i64 5000), .slo 0 2, .raw (.int .i64 50000), .raw (.int .i64 100000), .raw (.int .i64 1200), .raw (.int .i64 2), .raw (.int .i64 1), .slo 1 2], .raw (.int .i64 0), .raw (.bool true), .raw (.agg #[.int .i64 50000, .int .i64 42446]), .raw (.int .i64 2946)] (zq102) (.raw (.tuple #[.int .i64 3, .int .i64 0])) (zq102) := by
  have h := lnStand_ok nm [50000, 40000, 6000, 500, 0, 30000, 100000, 6000, 500, 1] [100, 0, 0, 200, 5, -5] 2 2 71 39 100000 200000 5000 50000 100000 1200 2 1 0 (ex_check nm hnm hE) 0 true 50000 42446 2946 rfl (by decide) (by decide) (by decide +kernel) (by decide +kernel) (by decide) (by decide) (by decide +kernel) (by decide) (by decide)
  revert h; delta lwA lwC bkG bkI bkW bkP zq189 zq220 zq102; intro h
  rw [show M.standZ [50000, 40000, 6000, 500, 0, 30000, 100000, 6000, 500, 1] (0 : Int).toNat true 50000 42446 2946 = 3 by kernel_rfl, ex_mix, ex_ints] at h
  exact h
theorem ex_posts (nm : ByteArray) : Meets cfx 0 53 [.agg [.raw (.string nm), .raw (.int .i64 100000), .raw (.int .i64 200000), .raw (.int .i64 5000), .slo 0 2, .raw (.int .i64 50000), .raw (.int .i64 100000), .raw (.int .i64 1200), .raw (.int .i64 2), .raw (.int .i64 1), .slo 1 2]] (zq189) (.slo 2 5) [some (.cells (mix [false, false, false, false, true] [50000, 40000, 6000, 500, 0, 30000, 100000, 6000, 500, 1]) 71 .ro), some (.cells (ints [100, 0, 0, 200, 5, -5]) 39 .ro), some (.cells (ints (M.rowP [50000, 40000, 6000, 500, 0, 30000, 100000, 6000, 500, 1] 2 50000 100000 1200)) 26 (.row 3))] :=
  lnPosts nm [50000, 40000, 6000, 500, 0, 30000, 100000, 6000, 500, 1] [100, 0, 0, 200, 5, -5] 2 2 71 39 100000 200000 5000 50000 100000 1200 2 1 (by decide) (by decide) zk
theorem ex_InWay (nm : ByteArray) (hnm : nm.size ≤ 100) (hE : M.lawnE nm [50000, 40000, 6000, 500, 0, 30000, 100000, 6000, 500, 1] [100, 0, 0, 200, 5, -5] 2 2 100000 200000 5000 50000 100000 1200 2 1 = 0) : Meets cfx 0 28 [.agg [.raw (.string nm), .raw (.int .i64 100000), .raw (.int .i64 200000), .raw (.int .i64 5000), .slo 0 2, .raw (.int .i64 50000), .raw (.int .i64 100000), .raw (.int .i64 1200), .raw (.int .i64 2), .raw (.int .i64 1), .slo 1 2], .raw (.agg #[.int .i64 49900, .int .i64 30000]), .raw (.agg #[.int .i64 49900, .int .i64 50000]), .raw (.int .i64 2946), .slo 2 0] [some (.cells [.raw (.int .i64 50000), .raw (.int .i64 40000), .raw (.int .i64 6000), .raw (.int .i64 500), .raw (.bool false), .raw (.int .i64 30000), .raw (.int .i64 100000), .raw (.int .i64 6000), .raw (.int .i64 500), .raw (.bool true)] 71 .ro), some (.cells [.raw (.int .i64 100), .raw (.int .i64 0), .raw (.int .i64 0), .raw (.int .i64 200), .raw (.int .i64 5), .raw (.int .i64 (-5))] 39 .ro), some (.cells [] 26 .ro)] (.tup [.slo 3 1, .raw (.int .i64 0)]) [some (.cells [.raw (.int .i64 50000), .raw (.int .i64 40000), .raw (.int .i64 6000), .raw (.int .i64 500), .raw (.bool false), .raw (.int .i64 30000), .raw (.int .i64 100000), .raw (.int .i64 6000), .raw (.int .i64 500), .raw (.bool true)] 71 .ro), some (.cells [.raw (.int .i64 100), .raw (.int .i64 0), .raw (.int .i64 0), .raw (.int .i64 200), .raw (.int .i64 5), .raw (.int .i64 (-5))] 39 .ro), some (.cells [] 26 .ro), some (.cells [.raw (.int .i64 0)] 3 (.row 1))] := by
  have hR := fnw_loop nm [50000, 40000, 6000, 500, 0, 30000, 100000, 6000, 500, 1] [100, 0, 0, 200, 5, -5] 2 2 71 39 100000 200000 5000 50000 100000 1200 2 1 [] (M.rowP [50000, 40000, 6000, 500, 0, 30000, 100000, 6000, 500, 1] 2 50000 100000 1200) 0 5 26 49900 30000 49900 50000 2946 (ex_posts nm) zk (by decide) (by decide) (by decide) (by unfold M.In; decide) (by unfold M.In; decide) (by decide) (by decide +kernel)
  have hF := fnw_all nm [50000, 40000, 6000, 500, 0, 30000, 100000, 6000, 500, 1] [100, 0, 0, 200, 5, -5] 2 2 71 39 100000 200000 5000 50000 100000 1200 2 1 [] (M.rowP [50000, 40000, 6000, 500, 0, 30000, 100000, 6000, 500, 1] 2 50000 100000 1200) 0 5 26 49900 30000 49900 50000 2946 (ex_posts nm) zk (by decide) (by decide) (by decide) (by unfold M.In; decide) (by unfold M.In; decide) (by decide) hR
  rw [show M.hits (M.cutZ ((M.rowP [50000, 40000, 6000, 500, 0, 30000, 100000, 6000, 500, 1] 2 50000 100000 1200) ++ List.take (0 * 3) []) 49900 30000 49900 50000 2946) (5 + 0) = [0] by kernel_rfl] at hF
  have h := lnInWay_ok nm [50000, 40000, 6000, 500, 0, 30000, 100000, 6000, 500, 1] [100, 0, 0, 200, 5, -5] 2 2 71 39 100000 200000 5000 50000 100000 1200 2 1 0 (ex_check nm hnm hE) [] 0 26 49900 30000 49900 50000 2946 (by decide) (by decide) rfl (by decide +kernel) (by decide +kernel) (by decide +kernel) zk [0] 1 hF
  revert h; delta lwA lwC bkG bkI bkW bkP zq189 zq199 zq220 zq196 zq143 zq116 zq87 zq75 zq45 zq242 zq256 zq95 zq111; intro h
  rw [ex_mix, ex_ints] at h
  exact h
end Go.Proofs.Ytmelbcmfahcffaa
end
section
namespace Go.Proofs.Ytmelbcmfahcffaa
open Go Go.RowKit Go.Proofs.Ytmelbcmfahcffaa.E2
theorem ex_over (v j : Int) (h : 0 ≤ j ∧ j ≤ 5892) (hv : 70000 - v = j ∨ 70000 - v = -j) : M.tchA [5000, 70000, 2946] 1 5000 v 2946 = decide (j < 5892) := by
  have e : M.tchA [5000, 70000, 2946] 1 5000 v 2946 = M.overB 5000 v 2946 5000 70000 2946 := by
    show (!((!M.overB 5000 v 2946 5000 70000 2946) && true)) = _
    cases M.overB 5000 v 2946 5000 70000 2946 <;> rfl
  rw [e, Bool.eq_iff_iff, decide_eq_true_iff, M.overB_iff]
  have q : M.sq 5000 v 5000 70000 = j * j := by
    unfold M.sq
    rcases hv with k | k <;> rw [k] <;> simp [Int.neg_mul_neg]
  rw [q]
  constructor
  · intro k
    rcases Int.lt_or_le j 5892 with r | r
    · exact r
    · obtain rfl : j = 5892 := by omega
      omega
  · intro k
    have := M.sq_le (a := j) (b := 5891) h.1 zo
    omega
theorem tmod_small {x d : Int} (h : 0 ≤ x) (k : x < d) : x.tmod d = x := Int.tmod_eq_of_lt h k
theorem tmod_less {x d : Int} (h : d ≤ x) (k : x < d + d) (hd : 0 < d) : x.tmod d = x - d := by
  rw [Int.tmod_eq_emod_of_nonneg (by omega), ← Int.sub_emod_right x d]
  exact Int.emod_eq_of_lt zo zo
theorem ex_half : M.yHalf 5000 5000 (100000 - 5000) (200000 - 5000) = 280000 := by kernel_rfl
theorem ex_yX (z : Int) (h : 370000 ≤ z) : M.yX 5000 5000 (100000 - 5000) (200000 - 5000) z = 5000 := by
  unfold M.yX
  rw [ex_half, if_neg (by omega), if_neg (by omega), if_neg (by omega)]
theorem ex_yY (z : Int) (h : 370000 ≤ z) : M.yY 5000 5000 (100000 - 5000) (200000 - 5000) z = 195000 - (z - 280000 - 90000) := by
  unfold M.yY
  rw [ex_half, if_neg (by omega), if_neg (by omega), if_neg (by omega)]
  omega
theorem ex_A (j : Int) (h : 0 ≤ j ∧ j ≤ 5892) : M.tchA [5000, 70000, 2946] 1 (M.yX 5000 5000 (100000 - 5000) (200000 - 5000) ((495000 + j).tmod (2 * 280000))) (M.yY 5000 5000 (100000 - 5000) (200000 - 5000) ((495000 + j).tmod (2 * 280000))) 2946 = decide (j < 5892) := by
  rw [tmod_small (by omega) (by omega), ex_yX _ (by omega), ex_yY _ (by omega)]
  exact ex_over _ j h zo
theorem ex_B (j : Int) (h : 0 ≤ j ∧ j ≤ 5892) : M.tchA [5000, 70000, 2946] 1 (M.yX 5000 5000 (100000 - 5000) (200000 - 5000) ((495000 - j + 2 * 280000).tmod (2 * 280000))) (M.yY 5000 5000 (100000 - 5000) (200000 - 5000) ((495000 - j + 2 * 280000).tmod (2 * 280000))) 2946 = decide (j < 5892) := by
  rw [tmod_less (by omega) (by omega) (by omega), show 495000 - j + 2 * 280000 - 2 * 280000 = 495000 - j by omega, ex_yX _ (by omega), ex_yY _ (by omega)]
  exact ex_over _ j h zo
theorem M.y_in {lx ly hx hy j : Int} (h1 : 0 ≤ lx ∧ lx ≤ hx ∧ hx ≤ 4194304) (h2 : 0 ≤ ly ∧ ly ≤ hy ∧ hy ≤ 4194304) (hj : 0 ≤ j ∧ j < 2 * M.yHalf lx ly hx hy) : (0 ≤ M.yX lx ly hx hy j ∧ M.yX lx ly hx hy j ≤ 4194304) ∧ (0 ≤ M.yY lx ly hx hy j ∧ M.yY lx ly hx hy j ≤ 4194304) := by
  have kh : M.yHalf lx ly hx hy = hx - lx + (hy - ly) := rfl
  unfold M.yX M.yY
  constructor <;> (repeat split) <;> omega
abbrev zq90 : Heap := [some (.cells [.raw (.int .i64 50000), .raw (.int .i64 40000), .raw (.int .i64 6000), .raw (.int .i64 500), .raw (.bool false), .raw (.int .i64 30000), .raw (.int .i64 100000), .raw (.int .i64 6000), .raw (.int .i64 500), .raw (.bool true)] 71 .ro), some (.cells [.raw (.int .i64 100), .raw (.int .i64 0), .raw (.int .i64 0), .raw (.int .i64 200), .raw (.int .i64 5), .raw (.int .i64 (-5))] 39 .ro), some (.cells [.raw (.int .i64 5000), .raw (.int .i64 70000), .raw (.int .i64 2946)] 26 .ro)]
theorem ex_Put (nm : ByteArray) (hnm : nm.size ≤ 100) (hE : M.lawnE nm [50000, 40000, 6000, 500, 0, 30000, 100000, 6000, 500, 1] [100, 0, 0, 200, 5, -5] 2 2 100000 200000 5000 50000 100000 1200 2 1 = 0) : Meets cfx 0 39 [.agg [.raw (.string nm), .raw (.int .i64 100000), .raw (.int .i64 200000), .raw (.int .i64 5000), .slo 0 2, .raw (.int .i64 50000), .raw (.int .i64 100000), .raw (.int .i64 1200), .raw (.int .i64 2), .raw (.int .i64 1), .slo 1 2], .raw (.agg #[.int .i64 1000, .int .i64 70000]), .raw (.int .i64 2946), .slo 2 1] (zq90) (.raw (.tuple #[.agg #[.int .i64 5000, .int .i64 64108], .int .i64 0])) (zq90) := by
  have hB := lnBall1 nm [50000, 40000, 6000, 500, 0, 30000, 100000, 6000, 500, 1] [100, 0, 0, 200, 5, -5] 2 2 71 39 100000 200000 5000 50000 100000 1200 2 1 0 (ex_check nm hnm hE) [5000, 70000, 2946] 1 26 1000 70000 2946 (by decide) (by decide)
  rw [show M.ball1E 0 1000 70000 2946 [5000, 70000, 2946] 1 = 0 by kernel_rfl] at hB
  have hsp := lnSpot 5000 5000 (100000 - 5000) (200000 - 5000) 1000 70000
  rw [show M.ySp 1000 5000 (100000 - 5000) = 5000 by kernel_rfl, show M.ySp 70000 5000 (200000 - 5000) = 70000 by kernel_rfl] at hsp
  have hha := lnHas 5000 5000 (100000 - 5000) (200000 - 5000) 5000 70000
  rw [show M.yHas 5000 5000 (100000 - 5000) (200000 - 5000) 5000 70000 = true by kernel_rfl] at hha
  have hnu := lnNum 5000 5000 (100000 - 5000) (200000 - 5000) 5000 70000 (by decide) (by decide)
  rw [show M.yNum 5000 5000 (100000 - 5000) (200000 - 5000) 5000 70000 = 495000 by kernel_rfl] at hnu
  have hhf := lnHalf 5000 5000 (100000 - 5000) (200000 - 5000) (by decide)
  rw [ex_half] at hhf
  have hpl : ∀ j : Int, 0 ≤ j → j < 2 * 280000 → chkDisc (M.yX 5000 5000 (100000 - 5000) (200000 - 5000) j) (M.yY 5000 5000 (100000 - 5000) (200000 - 5000) j) 2946 = 0 := fun j h0 h1 => by
    have := M.y_in (lx := 5000) (ly := 5000) (hx := 100000 - 5000) (hy := 200000 - 5000) (j := j) (by decide) (by decide) ⟨h0, by rw [ex_half]; exact h1⟩
    exact chkDisc_fit (by decide) zo zo
  have hq2 : ∀ i : Nat, i < 1 → chkDisc (at' [5000, 70000, 2946] (i * 3)) (at' [5000, 70000, 2946] (i * 3 + 1)) (at' [5000, 70000, 2946] (i * 3 + 2)) = 0 := by decide +kernel
  rcases ptl_loop nm [50000, 40000, 6000, 500, 0, 30000, 100000, 6000, 500, 1] [100, 0, 0, 200, 5, -5] 2 2 71 39 100000 200000 5000 50000 100000 1200 2 1 [5000, 70000, 2946] 1 26 1000 70000 2946 (by decide) hB (by decide) 5000 70000 495000 280000 hsp hha hnu hhf (by decide) (by decide) (by decide) hq2 hpl with ⟨k, _⟩ | ⟨i, hi, hlt, k⟩
  · exfalso
    have k2 := List.all_eq_true.1 k 5892 (List.mem_range.2 (by decide))
    rw [ex_A _ (by decide)] at k2
    revert k2
    decide
  · have hi2 : i = 5892 := by
      rcases Nat.lt_trichotomy i 5892 with h | h | h
      · exfalso
        have a := ex_A i zo
        have b := ex_B i zo
        rw [decide_eq_true (by omega)] at a b
        rcases k with ⟨k1, _⟩ | ⟨_, k1, _⟩
        · rw [a] at k1; cases k1
        · rw [b] at k1; cases k1
      · exact h
      · exfalso
        have k1 := hlt 5892 h
        rw [ex_A _ (by decide)] at k1
        revert k1
        simp
    subst hi2
    have a := ex_A ((5892 : Nat) : Int) (by decide)
    rw [decide_eq_false (by decide)] at a
    rcases k with ⟨_, R⟩ | ⟨k1, _⟩
    · have h := put_one nm [50000, 40000, 6000, 500, 0, 30000, 100000, 6000, 500, 1] [100, 0, 0, 200, 5, -5] 2 2 71 39 100000 200000 5000 50000 100000 1200 2 1 [5000, 70000, 2946] 1 26 1000 70000 2946 (by decide) hB (by decide) 5000 70000 495000 280000 hsp hha hnu hhf (by decide) (by decide) (by decide) hq2 hpl 5892 R
      revert h; delta lwA lwC bkG bkI bkW bkP zq189 zq220 zq224 zq129 zq187 zq193 zq192 zq215 zq90 zq223 zq135 zq81 zq22 zq103 zq24 zq234; intro h
      rw [show M.yX 5000 5000 (100000 - 5000) (200000 - 5000) ((495000 + ((5892 : Nat) : Int)).tmod (2 * 280000)) = 5000 by kernel_rfl, show M.yY 5000 5000 (100000 - 5000) (200000 - 5000) ((495000 + ((5892 : Nat) : Int)).tmod (2 * 280000)) = 64108 by kernel_rfl, ex_mix, ex_ints] at h
      exact h
    · rw [a] at k1; cases k1
end Go.Proofs.Ytmelbcmfahcffaa
end
section
namespace Go.Proofs.Ytmelbcmfahcffaa
open Go Go.RowKit Go.Proofs.Ytmelbcmfahcffaa.E2
theorem M.lawn_sides {nm : ByteArray} {gs cs : List Int} {n k : Nat} {w g y a b r p q : Int} (h : M.lawnE nm gs cs n k w g y a b r p q = 0) : (65536 ≤ w ∧ w ≤ 4194304) ∧ (65536 ≤ g ∧ g ≤ 4194304) ∧ (0 ≤ y ∧ y ≤ 1048576) ∧ 2 * y ≤ w - 2 ∧ 2 * y ≤ g - 2 := by
  have h1 := (M.lawn_ok h).2.1
  unfold M.sidesB at h1
  simp only [Bool.and_eq_true, M.btw_iff] at h1
  obtain ⟨⟨h2, h3⟩, h4⟩ := h1
  rw [Int.tdiv_eq_ediv_of_nonneg (by omega)] at h4
  omega
end Go.Proofs.Ytmelbcmfahcffaa
end
section
namespace Go.Proofs.Ytmelbcmfahcffaa
open Go Go.RowKit Go.Proofs.Ytmelbcmfahcffaa.E2
variable (nm : ByteArray) (gs cs : List Int) (n k : Nat) (T U : Nat) (w g y a b r p q : Int)
theorem M.cat_left {ps os : List Int} {q j : Nat} (h : j < ps.length) : at' (ps ++ List.take q os) j = at' ps j := by
  unfold at'
  rw [List.getD_eq_getElem?_getD, List.getD_eq_getElem?_getD, List.getElem?_append_left h]
theorem M.cat_right {ps os : List Int} {q j : Nat} (h : j < q) : at' (ps ++ List.take q os) (ps.length + j) = at' os j := by
  unfold at'
  rw [List.getD_eq_getElem?_getD, List.getD_eq_getElem?_getD, List.getElem?_append_right (by omega), Nat.add_sub_cancel_left, List.getElem?_take_of_lt h]
theorem M.post_facts {nm : ByteArray} {gs cs : List Int} {n k : Nat} {w g y a b r p q : Int} (h : M.lawnE nm gs cs n k w g y a b r p q = 0) : ∀ i : Nat, i < 2 * n + 1 → M.In (at' (M.rowP gs n a b r) (i * 3)) (at' (M.rowP gs n a b r) (i * 3 + 1)) ∧ 1 ≤ at' (M.rowP gs n a b r) (i * 3 + 2) ∧ at' (M.rowP gs n a b r) (i * 3 + 2) ≤ 8192 := fun i hi => by
  obtain ⟨h1, h2, h3, h4, h5⟩ := M.lawn_ok h
  have hs := M.lawn_sides h
  unfold M.postsB at h5
  simp only [Bool.and_eq_true] at h5
  have hr := M.rowP_rad (a := a) (b := b) h5.1 h3 i hi
  have hf := all_range h5.2.1 i hi
  unfold M.fitZ at hf
  rw [Bool.and_eq_true, M.btw_iff, M.btw_iff] at hf
  refine ⟨?_, hr⟩
  unfold M.In
  omega
theorem M.disc_facts {nm : ByteArray} {gs cs : List Int} {n k : Nat} {w g y a b r p q : Int} {os : List Int} {m : Nat} (h : M.lawnE nm gs cs n k w g y a b r p q = 0) (ho : M.othE os m = 0) : ∀ i : Nat, i < 2 * n + 1 + m → M.In (at' (M.rowP gs n a b r ++ List.take (m * 3) os) (i * 3)) (at' (M.rowP gs n a b r ++ List.take (m * 3) os) (i * 3 + 1)) ∧ 1 ≤ at' (M.rowP gs n a b r ++ List.take (m * 3) os) (i * 3 + 2) ∧ at' (M.rowP gs n a b r ++ List.take (m * 3) os) (i * 3 + 2) ≤ 16384 := fun i hi => by
  have hl := M.rowP_len gs n a b r
  by_cases hc : i < 2 * n + 1
  · rw [M.cat_left (by omega), M.cat_left (by omega), M.cat_left (by omega)]
    obtain ⟨q1, q2, q3⟩ := M.post_facts h i hc
    exact ⟨q1, q2, by omega⟩
  · have e0 : i * 3 = (M.rowP gs n a b r).length + (i - (2 * n + 1)) * 3 := by omega
    have e1 : i * 3 + 1 = (M.rowP gs n a b r).length + ((i - (2 * n + 1)) * 3 + 1) := by omega
    have e2 : i * 3 + 2 = (M.rowP gs n a b r).length + ((i - (2 * n + 1)) * 3 + 2) := by omega
    rw [e1, e2, e0, M.cat_right (by omega), M.cat_right (by omega), M.cat_right (by omega)]
    exact (M.oth_ok ho).2 _ zo
theorem M.cut_self (zs : List Int) (u v s : Int) : M.cutZ zs u v u v s = M.tchZ zs u v s := by
  funext i
  unfold M.cutZ M.tchZ M.cutB
  rw [Bool.eq_iff_iff, decide_eq_true_iff, M.overB_iff]
  unfold M.liesV
  have e : M.ahead u v u v (at' zs (i * 3)) (at' zs (i * 3 + 1)) = 0 := by unfold M.ahead; simp
  rw [e, if_pos (by omega), Int.add_comm s]
  unfold M.cmp
  by_cases h1 : M.sq u v (at' zs (i * 3)) (at' zs (i * 3 + 1)) < (at' zs (i * 3 + 2) + s) * (at' zs (i * 3 + 2) + s)
  · simp [h1]
  · rw [if_neg h1]
    by_cases h2 : (at' zs (i * 3 + 2) + s) * (at' zs (i * 3 + 2) + s) < M.sq u v (at' zs (i * 3)) (at' zs (i * 3 + 1))
    · simp [h1, h2]
    · simp [h1, h2]
def M.wayE (E a1 a2 b1 b2 s : Int) (os : List Int) (m : Nat) : Int := if ¬ E = 0 then E else if ¬ M.ptE a1 a2 = 0 then 2 else if ¬ M.ptE b1 b2 = 0 then 2 else M.ballE s os m
theorem M.way_ok {E a1 a2 b1 b2 s : Int} {os : List Int} {m : Nat} (h : M.wayE E a1 a2 b1 b2 s os m = 0) : E = 0 ∧ M.ptE a1 a2 = 0 ∧ M.radE s = 0 ∧ M.othE os m = 0 := by
  unfold M.wayE at h
  by_cases hE : E = 0
  case neg => rw [if_pos hE] at h; exact absurd h hE
  rw [if_neg (by simp [hE])] at h
  by_cases hP : M.ptE a1 a2 = 0
  case neg => rw [if_pos hP] at h; omega
  rw [if_neg (by simp [hP])] at h
  by_cases hQ : M.ptE b1 b2 = 0
  case neg => rw [if_pos hQ] at h; omega
  rw [if_neg (by simp [hQ])] at h
  exact ⟨hE, hP, M.ball_ok h⟩
theorem wayBoth (os : List Int) (m : Nat) (W : Nat) (a1 a2 b1 b2 s : Int) (hzg : n * 5 ≤ gs.length) (hzc : k * 3 ≤ cs.length) (hn : n ≤ 20) (hk : k ≤ 300) (hnm : nm.size ≤ 100) (hz : m * 3 ≤ os.length) (hmb : m ≤ 1000000) : (¬ (M.wayE (M.lawnE nm gs cs n k w g y a b r p q) a1 a2 b1 b2 s os m) = 0 ∧ Meets cfx 0 28 (zq196 nm w g y n a b r p q k a1 a2 b1 b2 s m) [bkG gs T, bkI cs U, bkI os W] (.raw (.tuple #[.slice none 0 0, .int .i64 (M.wayE (M.lawnE nm gs cs n k w g y a b r p q) a1 a2 b1 b2 s os m)])) [bkG gs T, bkI cs U, bkI os W] ∧ Meets cfx 0 29 (zq196 nm w g y n a b r p q k a1 a2 b1 b2 s m) [bkG gs T, bkI cs U, bkI os W] (.raw (.tuple #[.slice none 0 0, .int .i64 (M.wayE (M.lawnE nm gs cs n k w g y a b r p q) a1 a2 b1 b2 s os m)])) [bkG gs T, bkI cs U, bkI os W]) ∨ ((M.wayE (M.lawnE nm gs cs n k w g y a b r p q) a1 a2 b1 b2 s os m) = 0 ∧ Meets cfx 0 28 (zq196 nm w g y n a b r p q k a1 a2 b1 b2 s m) [bkG gs T, bkI cs U, bkI os W] (.tup [.slo 3 (M.hits (M.cutZ (M.rowP gs n a b r ++ List.take (m * 3) os) a1 a2 b1 b2 s) (2 * n + 1 + m)).length, .raw (.int .i64 0)]) ([bkG gs T, bkI cs U, bkI os W, some (.cells (ints (M.hits (M.cutZ (M.rowP gs n a b r ++ List.take (m * 3) os) a1 a2 b1 b2 s) (2 * n + 1 + m))) 3 (.row 1))]) ∧ Meets cfx 0 29 (zq196 nm w g y n a b r p q k a1 a2 b1 b2 s m) [bkG gs T, bkI cs U, bkI os W] (.tup [.slo 3 (M.hits (M.cutZ (M.rowP gs n a b r ++ List.take (m * 3) os) a1 a2 b1 b2 s) (2 * n + 1 + m)).length, .raw (.int .i64 0)]) ([bkG gs T, bkI cs U, bkI os W, some (.cells (ints (M.hits (M.cutZ (M.rowP gs n a b r ++ List.take (m * 3) os) a1 a2 b1 b2 s) (2 * n + 1 + m))) 3 (.row 1))])) := by
  have hC := lnCheck nm gs cs n k T U w g y a b r p q hzg hzc hn hk hnm
  have hR := rnCheck nm gs cs n k T U w g y a b r p q hzg hzc hn hk hnm
  unfold M.wayE
  by_cases hE : M.lawnE nm gs cs n k w g y a b r p q = 0
  case neg =>
    rw [if_pos hE]
    exact .inl ⟨hE, lnInWay_E nm gs cs n k T U w g y a b r p q _ hC os m W a1 a2 b1 b2 s hz hmb hE, rnInWay_E nm gs cs n k T U w g y a b r p q _ hR os m W a1 a2 b1 b2 s hz hmb hE⟩
  rw [if_neg (by simp [hE])]
  rw [hE] at hC hR
  by_cases hP : M.ptE a1 a2 = 0
  case neg =>
    rw [if_pos hP]
    have h := lnInWay_P nm gs cs n k T U w g y a b r p q 0 hC os m W a1 a2 b1 b2 s hz hmb rfl hP
    rw [(M.pt_or a1 a2).resolve_left hP] at h
    exact .inl ⟨by omega, h, rnInWay_P nm gs cs n k T U w g y a b r p q 0 hR os m W a1 a2 b1 b2 s hz hmb rfl hP⟩
  rw [if_neg (by simp [hP])]
  by_cases hQ : M.ptE b1 b2 = 0
  case neg =>
    rw [if_pos hQ]
    have h := lnInWay_Q nm gs cs n k T U w g y a b r p q 0 hC os m W a1 a2 b1 b2 s hz hmb rfl hP hQ
    rw [(M.pt_or b1 b2).resolve_left hQ] at h
    exact .inl ⟨by omega, h, rnInWay_Q nm gs cs n k T U w g y a b r p q 0 hR os m W a1 a2 b1 b2 s hz hmb rfl hP hQ⟩
  rw [if_neg (by simp [hQ])]
  by_cases hS : M.radE s = 0
  case neg =>
    have eb : M.ballE s os m = M.radE s := by unfold M.ballE; rw [if_neg hS]
    have h2 := rnInWay_B nm gs cs n k T U w g y a b r p q 0 hR os m W a1 a2 b1 b2 s hz hmb rfl hP hQ (by rw [eb]; exact hS)
    rw [eb] at h2 ⊢
    exact .inl ⟨hS, lnInWay_S nm gs cs n k T U w g y a b r p q 0 hC os m W a1 a2 b1 b2 s hz hmb rfl hP hQ hS, h2⟩
  have eb : M.ballE s os m = M.othE os m := by unfold M.ballE; rw [if_pos hS]
  by_cases hO : M.othE os m = 0
  case neg =>
    have h2 := rnInWay_B nm gs cs n k T U w g y a b r p q 0 hR os m W a1 a2 b1 b2 s hz hmb rfl hP hQ (by rw [eb]; exact hO)
    rw [eb] at h2 ⊢
    exact .inl ⟨hO, lnInWay_O nm gs cs n k T U w g y a b r p q 0 hC os m W a1 a2 b1 b2 s hz hmb rfl hP hQ hS hO, h2⟩
  have hs2 := M.rad_iff.1 hS
  have hm12 := (M.oth_ok hO).1
  have hh := (M.lawn_ok hE).2.2.1
  have hn12 := (M.lawn_ok hE).1
  have hp1 := lnPosts nm gs cs n k T U w g y a b r p q hzg hn hh
  have hp2 := rnPosts nm gs cs n k T U w g y a b r p q hzg hn hh
  have hl := M.rowP_len gs n a b r
  have hq := M.disc_facts hE hO
  have ha : M.In a1 a2 := M.pt_iff.1 hP
  have hb : M.In b1 b2 := M.pt_iff.1 hQ
  have R1 := fnw_loop nm gs cs n k T U w g y a b r p q os (M.rowP gs n a b r) m (2 * n + 1) W a1 a2 b1 b2 s hp1 hl hz zo zo ha hb zo (fun i hi => by
    obtain ⟨q1, q2, q3⟩ := hq i hi
    exact ⟨⟨by omega, by omega⟩, chkDisc_fit zo q1.1 q1.2⟩)
  have F1 := fnw_all nm gs cs n k T U w g y a b r p q os (M.rowP gs n a b r) m (2 * n + 1) W a1 a2 b1 b2 s hp1 hl hz zo zo ha hb zo R1
  have R2 := rnw_loop nm gs cs n k T U w g y a b r p q os (M.rowP gs n a b r) m (2 * n + 1) W a1 a2 b1 b2 s hp2 hl hz zo zo ha hb hs2 hq
  have F2 := rnw_all nm gs cs n k T U w g y a b r p q os (M.rowP gs n a b r) m (2 * n + 1) W a1 a2 b1 b2 s hp2 hl hz zo zo ha hb hs2 R2
  exact .inr ⟨by rw [eb]; exact hO, lnInWay_ok nm gs cs n k T U w g y a b r p q 0 hC os m W a1 a2 b1 b2 s hz hmb rfl hP hQ hS hO _ _ F1, rnInWay_ok nm gs cs n k T U w g y a b r p q 0 hR os m W a1 a2 b1 b2 s hz hmb rfl hP hQ (by rw [eb]; exact hO) _ _ F2⟩
theorem touchBoth (os : List Int) (m : Nat) (W : Nat) (u v s : Int) (hzg : n * 5 ≤ gs.length) (hzc : k * 3 ≤ cs.length) (hn : n ≤ 20) (hk : k ≤ 300) (hnm : nm.size ≤ 100) (hz : m * 3 ≤ os.length) (hmb : m ≤ 1000000) : (¬ (M.wayE (M.lawnE nm gs cs n k w g y a b r p q) u v u v s os m) = 0 ∧ Meets cfx 0 30 (zq223 nm w g y n a b r p q k u v s m) [bkG gs T, bkI cs U, bkI os W] (.raw (.tuple #[.slice none 0 0, .int .i64 (M.wayE (M.lawnE nm gs cs n k w g y a b r p q) u v u v s os m)])) [bkG gs T, bkI cs U, bkI os W] ∧ Meets cfx 0 31 (zq223 nm w g y n a b r p q k u v s m) [bkG gs T, bkI cs U, bkI os W] (.raw (.tuple #[.slice none 0 0, .int .i64 (M.wayE (M.lawnE nm gs cs n k w g y a b r p q) u v u v s os m)])) [bkG gs T, bkI cs U, bkI os W]) ∨ ((M.wayE (M.lawnE nm gs cs n k w g y a b r p q) u v u v s os m) = 0 ∧ Meets cfx 0 30 (zq223 nm w g y n a b r p q k u v s m) [bkG gs T, bkI cs U, bkI os W] (.tup [.slo 3 (M.hits (M.cutZ (M.rowP gs n a b r ++ List.take (m * 3) os) u v u v s) (2 * n + 1 + m)).length, .raw (.int .i64 0)]) ([bkG gs T, bkI cs U, bkI os W, some (.cells (ints (M.hits (M.cutZ (M.rowP gs n a b r ++ List.take (m * 3) os) u v u v s) (2 * n + 1 + m))) 3 (.row 1))]) ∧ Meets cfx 0 31 (zq223 nm w g y n a b r p q k u v s m) [bkG gs T, bkI cs U, bkI os W] (.tup [.slo 3 (M.hits (M.cutZ (M.rowP gs n a b r ++ List.take (m * 3) os) u v u v s) (2 * n + 1 + m)).length, .raw (.int .i64 0)]) ([bkG gs T, bkI cs U, bkI os W, some (.cells (ints (M.hits (M.cutZ (M.rowP gs n a b r ++ List.take (m * 3) os) u v u v s) (2 * n + 1 + m))) 3 (.row 1))])) := by
  rcases wayBoth nm gs cs n k T U w g y a b r p q os m W u v u v s hzg hzc hn hk hnm hz hmb with ⟨he, _, h2⟩ | ⟨he, _, h2⟩
  · refine .inl ⟨he, ?_, rnTouched_bad nm gs cs n k T U w g y a b r p q os m W u v s _ h2⟩
    have hC := lnCheck nm gs cs n k T U w g y a b r p q hzg hzc hn hk hnm
    revert he
    clear h2
    unfold M.wayE
    by_cases hE : M.lawnE nm gs cs n k w g y a b r p q = 0
    case neg =>
      rw [if_pos hE]
      exact fun _ => lnTouched_E nm gs cs n k T U w g y a b r p q _ hC os m W u v s hz hmb hE
    rw [if_neg (by simp [hE])]
    rw [hE] at hC
    by_cases hP : M.ptE u v = 0
    case neg =>
      rw [if_pos hP]
      have h := lnTouched_P nm gs cs n k T U w g y a b r p q 0 hC os m W u v s hz hmb rfl hP
      rw [(M.pt_or u v).resolve_left hP] at h
      exact fun _ => h
    rw [if_neg (by simp [hP]), if_neg (by simp [hP])]
    unfold M.ballE
    by_cases hS : M.radE s = 0
    case neg =>
      rw [if_neg hS]
      exact fun _ => lnTouched_S nm gs cs n k T U w g y a b r p q 0 hC os m W u v s hz hmb rfl hP hS
    rw [if_pos hS]
    exact fun hO => lnTouched_O nm gs cs n k T U w g y a b r p q 0 hC os m W u v s hz hmb rfl hP hS hO
  · refine .inr ⟨he, ?_, rnTouched_ok nm gs cs n k T U w g y a b r p q os m W u v s _ _ h2⟩
    obtain ⟨hE, hP, hS, hO⟩ := M.way_ok he
    have hC := lnCheck nm gs cs n k T U w g y a b r p q hzg hzc hn hk hnm
    rw [hE] at hC
    have hs2 := M.rad_iff.1 hS
    have hm12 := (M.oth_ok hO).1
    have hh := (M.lawn_ok hE).2.2.1
    have hn12 := (M.lawn_ok hE).1
    have hp1 := lnPosts nm gs cs n k T U w g y a b r p q hzg hn hh
    have hl := M.rowP_len gs n a b r
    have hq := M.disc_facts hE hO
    have ha := M.pt_iff.1 hP
    have hd : chkDisc u v s = 0 := chkDisc_fit zo ha.1 ha.2
    have hq2 : ∀ i : Nat, i < 2 * n + 1 + m → chkDisc (at' (M.rowP gs n a b r ++ List.take (m * 3) os) (i * 3)) (at' (M.rowP gs n a b r ++ List.take (m * 3) os) (i * 3 + 1)) (at' (M.rowP gs n a b r ++ List.take (m * 3) os) (i * 3 + 2)) = 0 := fun i hi => by
      obtain ⟨q1, q2, q3⟩ := hq i hi
      exact chkDisc_fit zo q1.1 q1.2
    have R1 := fnt_loop nm gs cs n k T U w g y a b r p q os (M.rowP gs n a b r) m (2 * n + 1) W u v s hp1 hl hz zo zo hd hq2
    have F1 := fnt_all nm gs cs n k T U w g y a b r p q os (M.rowP gs n a b r) m (2 * n + 1) W u v s hp1 hl hz zo zo hd R1
    rw [M.cut_self]
    exact lnTouched_ok nm gs cs n k T U w g y a b r p q 0 hC os m W u v s hz hmb rfl hP hS hO _ _ F1
end Go.Proofs.Ytmelbcmfahcffaa
end
section
namespace Go.Proofs.Ytmelbcmfahcffaa
open Go Go.RowKit Go.Proofs.Ytmelbcmfahcffaa.E2
variable (nm : ByteArray) (gs cs : List Int) (n k : Nat) (T U : Nat) (w g y a b r p q : Int)
theorem lnMay_E_1 (E : Int) (hC : (zq220 nm w g y n a b r p q k gs T cs U E)) (os : List Int) (m : Nat) (W : Nat) (u v s : Int) (hz : m * 3 ≤ os.length) (hmb : m ≤ 1000000)  (hE : ¬ E = 0)  : Meets cfx 0 32 (zq223 nm w g y n a b r p q k u v s m) [bkG gs T, bkI cs U, bkI os W] (V.raw (.tuple { toList := [.bool false, .int .i64 E] })) [bkG gs T, bkI cs U, bkI os W] := by
  refine Meets.post (meets_ev cfx_mixed cfx_call zz zb (n := 40) (ans := [Ans.go, Ans.go, Ans.reth (iV E) (zq177 gs T cs U os W nm w g y n a b r p q k u v), zT, zT]) (v := V.raw (.tuple { toList := [.bool false, .int .i64 E] })) (h' := (zq177 gs T cs U os W nm w g y n a b r p q k u v)) (cons := [(1 ≤ 9223372036854775807), ((zq93 nm w g y n a b r p q k gs T cs U os W u v E)), ((!decide (E = 0)) = true), ((!decide (E = 0)) = true)]) zk
    ⟨zds, (by exact below2 (lim := 0) rfl rfl 0 1 (N := []) hC (mix_all _ _) (ints_all _) rfl (fun k X h => by simp at h) rfl rfl zz), zdf, zdf, trivial⟩) zk zt1
theorem lnMay_E (E : Int) (hC : (zq220 nm w g y n a b r p q k gs T cs U E)) (os : List Int) (m : Nat) (W : Nat) (u v s : Int) (hz : m * 3 ≤ os.length) (hmb : m ≤ 1000000)  (hE : ¬ E = 0) : Meets cfx 0 32 (zq223 nm w g y n a b r p q k u v s m) [bkG gs T, bkI cs U, bkI os W] (.raw (.tuple #[.bool false, .int .i64 E])) [bkG gs T, bkI cs U, bkI os W] := by
  have e : (.raw (.tuple #[.bool false, .int .i64 E]) : V) = V.raw (.tuple { toList := [.bool false, .int .i64 E] }) := by rfl
  rw [e]
  exact lnMay_E_1 nm gs cs n k T U w g y a b r p q E hC os m W u v s hz hmb hE
theorem lnMay_P_1 (E : Int) (hC : (zq220 nm w g y n a b r p q k gs T cs U E)) (os : List Int) (m : Nat) (W : Nat) (u v s : Int) (hz : m * 3 ≤ os.length) (hmb : m ≤ 1000000) (hE : E = 0) (hP : ¬ M.ptE u v = 0)  : Meets cfx 0 32 (zq223 nm w g y n a b r p q k u v s m) [bkG gs T, bkI cs U, bkI os W] (V.raw (.tuple { toList := [.bool false, .int .i64 (M.ptE u v)] })) [bkG gs T, bkI cs U, bkI os W] := by
  refine Meets.post (meets_ev cfx_mixed cfx_call zz zb (n := 40) (ans := [Ans.go, Ans.go, Ans.reth (iV E) (zq177 gs T cs U os W nm w g y n a b r p q k u v), zF, zT, Ans.ret (iV (M.ptE u v)), zT, zT]) (v := V.raw (.tuple { toList := [.bool false, .int .i64 (M.ptE u v)] })) (h' := (zq152 gs T cs U os W nm w g y n a b r p q k u v)) (cons := [(1 ≤ 9223372036854775807), ((zq93 nm w g y n a b r p q k gs T cs U os W u v E)), ((!decide (E = 0)) = false), (true = true), ((0 : Int) ≤ (0 : Int) ∧ (0 : Int) < (1 : Int)), (Ret cfx 56 [V.raw (.agg { toList := [.int .i64 u, .int .i64 v] })] (iV (M.ptE u v))), ((!decide (M.ptE u v = 0)) = true), ((!decide (M.ptE u v = 0)) = true)]) zk
    ⟨zds, (by exact below2 (lim := 0) rfl rfl 0 1 (N := []) hC (mix_all _ _) (ints_all _) rfl (fun k X h => by simp at h) rfl rfl zz), zdf, rfl, zo, (lnPoint _ _), zdf, zdf, trivial⟩) zk zt1
theorem lnMay_P (E : Int) (hC : (zq220 nm w g y n a b r p q k gs T cs U E)) (os : List Int) (m : Nat) (W : Nat) (u v s : Int) (hz : m * 3 ≤ os.length) (hmb : m ≤ 1000000) (hE : E = 0) (hP : ¬ M.ptE u v = 0) : Meets cfx 0 32 (zq223 nm w g y n a b r p q k u v s m) [bkG gs T, bkI cs U, bkI os W] (.raw (.tuple #[.bool false, .int .i64 (M.ptE u v)])) [bkG gs T, bkI cs U, bkI os W] := by
  have e : (.raw (.tuple #[.bool false, .int .i64 (M.ptE u v)]) : V) = V.raw (.tuple { toList := [.bool false, .int .i64 (M.ptE u v)] }) := by rfl
  rw [e]
  exact lnMay_P_1 nm gs cs n k T U w g y a b r p q E hC os m W u v s hz hmb hE hP
theorem lnMay_S_1 (E : Int) (hC : (zq220 nm w g y n a b r p q k gs T cs U E)) (os : List Int) (m : Nat) (W : Nat) (u v s : Int) (hz : m * 3 ≤ os.length) (hmb : m ≤ 1000000) (hE : E = 0) (hP : M.ptE u v = 0) (hS : ¬ M.radE s = 0)  : Meets cfx 0 32 (zq223 nm w g y n a b r p q k u v s m) [bkG gs T, bkI cs U, bkI os W] (V.raw (.tuple { toList := [.bool false, .int .i64 (M.radE s)] })) [bkG gs T, bkI cs U, bkI os W] := by
  refine Meets.post (meets_ev cfx_mixed cfx_call zz zb (n := 40) (ans := [Ans.go, Ans.go, Ans.reth (iV E) (zq177 gs T cs U os W nm w g y n a b r p q k u v), zF, zT, Ans.ret (iV (M.ptE u v)), zF, zF, Ans.ret (iV (M.radE s)), Ans.reth (iV (M.othE os m)) (zq152 gs T cs U os W nm w g y n a b r p q k u v), Ans.go, zT, zT, zT]) (v := V.raw (.tuple { toList := [.bool false, .int .i64 (M.radE s)] })) (h' := (zq124 gs T cs U os W nm w g y n a b r p q k u v s m)) (cons := [(1 ≤ 9223372036854775807), ((zq93 nm w g y n a b r p q k gs T cs U os W u v E)), ((!decide (E = 0)) = false), (true = true), ((0 : Int) ≤ (0 : Int) ∧ (0 : Int) < (1 : Int)), (Ret cfx 56 [V.raw (.agg { toList := [.int .i64 u, .int .i64 v] })] (iV (M.ptE u v))), ((!decide (M.ptE u v = 0)) = false), (inR IntKind.i64 1), (false = false), (Ret cfx 80 [iV s] (iV (M.radE s))), ((zq85 m gs T cs U os W nm w g y n a b r p q k u v)), (2 ≤ 9223372036854775807), (true = true), ((0 : Int) ≤ (0 : Int) ∧ (0 : Int) < (2 : Int)), ((!decide (M.radE s = 0)) = true), ((!decide (M.radE s = 0)) = true)]) zk
    ⟨zds, (by exact below2 (lim := 0) rfl rfl 0 1 (N := []) hC (mix_all _ _) (ints_all _) rfl (fun k X h => by simp at h) rfl rfl zz), zdf, rfl, zo, (lnPoint _ _), zdf, inR_i64 zo zo, rfl, (lnRadius _), (by exact below_ro (lim := 0) (N := []) rfl rfl (fun k => 2) (fun _ => false) (lnOthers os m W hz hmb) ⟨⟨_, _, rfl, ints_all _, .inl ⟨rfl, _, rfl⟩⟩, trivial⟩ (fun _ _ => rfl) rfl rfl rfl (fun k X h => by simp at h) zz), zds, rfl, zo, zdf, zdf, trivial⟩) zk zt1
theorem lnMay_S (E : Int) (hC : (zq220 nm w g y n a b r p q k gs T cs U E)) (os : List Int) (m : Nat) (W : Nat) (u v s : Int) (hz : m * 3 ≤ os.length) (hmb : m ≤ 1000000) (hE : E = 0) (hP : M.ptE u v = 0) (hS : ¬ M.radE s = 0) : Meets cfx 0 32 (zq223 nm w g y n a b r p q k u v s m) [bkG gs T, bkI cs U, bkI os W] (.raw (.tuple #[.bool false, .int .i64 (M.radE s)])) [bkG gs T, bkI cs U, bkI os W] := by
  have e : (.raw (.tuple #[.bool false, .int .i64 (M.radE s)]) : V) = V.raw (.tuple { toList := [.bool false, .int .i64 (M.radE s)] }) := by rfl
  rw [e]
  exact lnMay_S_1 nm gs cs n k T U w g y a b r p q E hC os m W u v s hz hmb hE hP hS
theorem lnMay_O_1 (E : Int) (hC : (zq220 nm w g y n a b r p q k gs T cs U E)) (os : List Int) (m : Nat) (W : Nat) (u v s : Int) (hz : m * 3 ≤ os.length) (hmb : m ≤ 1000000) (hE : E = 0) (hP : M.ptE u v = 0) (hS : M.radE s = 0) (hO : ¬ M.othE os m = 0)  : Meets cfx 0 32 (zq223 nm w g y n a b r p q k u v s m) [bkG gs T, bkI cs U, bkI os W] (V.raw (.tuple { toList := [.bool false, .int .i64 (M.othE os m)] })) [bkG gs T, bkI cs U, bkI os W] := by
  refine Meets.post (meets_ev cfx_mixed cfx_call zz zb (n := 40) (ans := [Ans.go, Ans.go, Ans.reth (iV E) (zq177 gs T cs U os W nm w g y n a b r p q k u v), zF, zT, Ans.ret (iV (M.ptE u v)), zF, zF, Ans.ret (iV (M.radE s)), Ans.reth (iV (M.othE os m)) (zq152 gs T cs U os W nm w g y n a b r p q k u v), Ans.go, zT, zF, zT, zT, zT]) (v := V.raw (.tuple { toList := [.bool false, .int .i64 (M.othE os m)] })) (h' := (zq124 gs T cs U os W nm w g y n a b r p q k u v s m)) (cons := [(1 ≤ 9223372036854775807), ((zq93 nm w g y n a b r p q k gs T cs U os W u v E)), ((!decide (E = 0)) = false), (true = true), ((0 : Int) ≤ (0 : Int) ∧ (0 : Int) < (1 : Int)), (Ret cfx 56 [V.raw (.agg { toList := [.int .i64 u, .int .i64 v] })] (iV (M.ptE u v))), ((!decide (M.ptE u v = 0)) = false), (inR IntKind.i64 1), (false = false), (Ret cfx 80 [iV s] (iV (M.radE s))), ((zq85 m gs T cs U os W nm w g y n a b r p q k u v)), (2 ≤ 9223372036854775807), (true = true), ((0 : Int) ≤ (0 : Int) ∧ (0 : Int) < (2 : Int)), ((!decide (M.radE s = 0)) = false), (inR IntKind.i64 1), (true = true), ((0 : Int) ≤ (1 : Int) ∧ (1 : Int) < (2 : Int)), ((!decide (M.othE os m = 0)) = true), ((!decide (M.othE os m = 0)) = true)]) zk
    ⟨zds, (by exact below2 (lim := 0) rfl rfl 0 1 (N := []) hC (mix_all _ _) (ints_all _) rfl (fun k X h => by simp at h) rfl rfl zz), zdf, rfl, zo, (lnPoint _ _), zdf, inR_i64 zo zo, rfl, (lnRadius _), (by exact below_ro (lim := 0) (N := []) rfl rfl (fun k => 2) (fun _ => false) (lnOthers os m W hz hmb) ⟨⟨_, _, rfl, ints_all _, .inl ⟨rfl, _, rfl⟩⟩, trivial⟩ (fun _ _ => rfl) rfl rfl rfl (fun k X h => by simp at h) zz), zds, rfl, zo, zdf, inR_i64 zo zo, rfl, zo, zdf, zdf, trivial⟩) zk zt1
theorem lnMay_O (E : Int) (hC : (zq220 nm w g y n a b r p q k gs T cs U E)) (os : List Int) (m : Nat) (W : Nat) (u v s : Int) (hz : m * 3 ≤ os.length) (hmb : m ≤ 1000000) (hE : E = 0) (hP : M.ptE u v = 0) (hS : M.radE s = 0) (hO : ¬ M.othE os m = 0) : Meets cfx 0 32 (zq223 nm w g y n a b r p q k u v s m) [bkG gs T, bkI cs U, bkI os W] (.raw (.tuple #[.bool false, .int .i64 (M.othE os m)])) [bkG gs T, bkI cs U, bkI os W] := by
  have e : (.raw (.tuple #[.bool false, .int .i64 (M.othE os m)]) : V) = V.raw (.tuple { toList := [.bool false, .int .i64 (M.othE os m)] }) := by rfl
  rw [e]
  exact lnMay_O_1 nm gs cs n k T U w g y a b r p q E hC os m W u v s hz hmb hE hP hS hO
abbrev zq237 (gs : List Int) (T : Nat) (cs : List Int) (U : Nat) (os : List Int) (W : Nat) (nm : ByteArray) (w : Int) (g : Int) (y : Int) (n : Nat) (a : Int) (b : Int) (r : Int) (p : Int) (q : Int) (k : Nat) (u : Int) (v : Int) (s : Int) (m : Nat) (ps : List Int) : Heap := [bkG gs T, bkI cs U, bkI os W, bkW nm w g y n a b r p q k, bkP u v, some (.cells [iV u, iV v] 24 (.row 2)), bkW nm w g y n a b r p q k, bkP u v, some (.cells [iV (M.radE s), iV (M.othE os m)] 33 (.row 1)), bkP u v, some (.cells [iV u, iV v, iV s] 26 .rw), bkW nm w g y n a b r p q k, bkP u v, some (.cells (ints ps) 26 (.row 3))]
abbrev zq32 (c : Nat) (gs : List Int) (T : Nat) (cs : List Int) (U : Nat) (os : List Int) (W : Nat) (nm : ByteArray) (w : Int) (g : Int) (y : Int) (n : Nat) (a : Int) (b : Int) (r : Int) (p : Int) (q : Int) (k : Nat) (u : Int) (v : Int) (s : Int) (m : Nat) (ps : List Int) : Prop := Meets cfx 0 78 [.slo 13 c, V.fn (Fn.func 106) [] [.ptr 10 0]] (zq237 gs T cs U os W nm w g y n a b r p q k u v s m ps) (V.raw (.bool (M.tchA ps c u v s))) (zq237 gs T cs U os W nm w g y n a b r p q k u v s m ps)
abbrev zq33 (nm : ByteArray) (w : Int) (g : Int) (y : Int) (n : Nat) (a : Int) (b : Int) (r : Int) (p : Int) (q : Int) (k : Nat) (gs : List Int) (T : Nat) (cs : List Int) (U : Nat) (os : List Int) (W : Nat) (u : Int) (v : Int) (s : Int) (m : Nat) (c : Nat) (ps : List Int) : Prop := Meets cfx 0 53 [lwA nm w g y n a b r p q k] [bkG gs T, bkI cs U, bkI os W, bkW nm w g y n a b r p q k, bkP u v, some (.cells [iV u, iV v] 24 (.row 2)), bkW nm w g y n a b r p q k, bkP u v, some (.cells [iV (M.radE s), iV (M.othE os m)] 33 (.row 1)), bkP u v, some (.cells [iV u, iV v, iV s] 26 .rw), bkW nm w g y n a b r p q k, bkP u v] (.slo 13 c) (zq237 gs T cs U os W nm w g y n a b r p q k u v s m ps)
abbrev zq89 (gs : List Int) (T : Nat) (cs : List Int) (U : Nat) (os : List Int) (W : Nat) (nm : ByteArray) (w : Int) (g : Int) (y : Int) (n : Nat) (a : Int) (b : Int) (r : Int) (p : Int) (q : Int) (k : Nat) (u : Int) (v : Int) (s : Int) (m : Nat) (ps : List Int) : Heap := (zq237 gs T cs U os W nm w g y n a b r p q k u v s m ps)
theorem lnMay_ok_1 (E : Int) (hC : (zq220 nm w g y n a b r p q k gs T cs U E)) (os : List Int) (m : Nat) (W : Nat) (u v s : Int) (hz : m * 3 ≤ os.length) (hmb : m ≤ 1000000) (hE : E = 0) (hP : M.ptE u v = 0) (hS : M.radE s = 0) (hO : M.othE os m = 0) (ps : List Int) (c : Nat) (hpo : (zq199 nm w g y n a b r p q k gs T cs U c ps)) (hzl : ps.length = c * 3) (hc : c ≤ 100) (hm1 : m ≤ 1000) (hd : chkDisc u v s = 0) (hq1 : ∀ i : Nat, i < m → chkDisc (at' os (i * 3)) (at' os (i * 3 + 1)) (at' os (i * 3 + 2)) = 0) (hq2 : ∀ i : Nat, i < c → chkDisc (at' ps (i * 3)) (at' ps (i * 3 + 1)) (at' ps (i * 3 + 2)) = 0) (f0 : M.btw u 0 w = true) (f1 : M.btw v 0 g = true) (f2 : M.tchA ps c u v s = false) : Meets cfx 0 32 (zq223 nm w g y n a b r p q k u v s m) [bkG gs T, bkI cs U, bkI os W] (V.raw (.tuple { toList := [.bool !M.tchA os m u v s, .int .i64 0] })) [bkG gs T, bkI cs U, bkI os W] := by
  refine Meets.post (meets_ev cfx_mixed cfx_call zz zb (n := 40) (ans := [Ans.go, Ans.go, Ans.reth (iV E) (zq177 gs T cs U os W nm w g y n a b r p q k u v), zF, zT, Ans.ret (iV (M.ptE u v)), zF, zF, Ans.ret (iV (M.radE s)), Ans.reth (iV (M.othE os m)) (zq152 gs T cs U os W nm w g y n a b r p q k u v), Ans.go, zT, zF, zT, zF, zF, zF, Ans.go, Ans.go, Ans.ret (V.raw (.bool (M.btw u 0 w))), zT, Ans.ret (V.raw (.bool (M.btw v 0 g))), zT, zT, Ans.reth (.slo 13 c) (zq89 gs T cs U os W nm w g y n a b r p q k u v s m ps), Ans.reth (V.raw (.bool (M.tchA ps c u v s))) (zq89 gs T cs U os W nm w g y n a b r p q k u v s m ps), zT, zT, Ans.reth (V.raw (.bool (M.tchA os m u v s))) (zq89 gs T cs U os W nm w g y n a b r p q k u v s m ps), zT]) (v := V.raw (.tuple { toList := [.bool !M.tchA os m u v s, .int .i64 0] })) (h' := (zq89 gs T cs U os W nm w g y n a b r p q k u v s m ps)) (cons := [(1 ≤ 9223372036854775807), ((zq93 nm w g y n a b r p q k gs T cs U os W u v E)), ((!decide (E = 0)) = false), (true = true), ((0 : Int) ≤ (0 : Int) ∧ (0 : Int) < (1 : Int)), (Ret cfx 56 [V.raw (.agg { toList := [.int .i64 u, .int .i64 v] })] (iV (M.ptE u v))), ((!decide (M.ptE u v = 0)) = false), (inR IntKind.i64 1), (false = false), (Ret cfx 80 [iV s] (iV (M.radE s))), ((zq85 m gs T cs U os W nm w g y n a b r p q k u v)), (2 ≤ 9223372036854775807), (true = true), ((0 : Int) ≤ (0 : Int) ∧ (0 : Int) < (2 : Int)), ((!decide (M.radE s = 0)) = false), (inR IntKind.i64 1), (true = true), ((0 : Int) ≤ (1 : Int) ∧ (1 : Int) < (2 : Int)), ((!decide (M.othE os m = 0)) = false), (inR IntKind.i64 2), (false = false), (false = false), (Ret cfx 69 [iV u, iV 0, iV w] (V.raw (.bool (M.btw u 0 w)))), (M.btw u 0 w = true), (Ret cfx 69 [iV v, iV 0, iV g] (V.raw (.bool (M.btw v 0 g)))), (true = true), (M.btw v 0 g = true), ((zq33 nm w g y n a b r p q k gs T cs U os W u v s m c ps)), ((zq32 c gs T cs U os W nm w g y n a b r p q k u v s m ps)), (true = true), ((!M.tchA ps c u v s) = true), (Meets cfx 0 78 [.slo 2 m, V.fn (Fn.func 106) [] [.ptr 10 0]] (zq89 gs T cs U os W nm w g y n a b r p q k u v s m ps) (V.raw (.bool (M.tchA os m u v s))) (zq89 gs T cs U os W nm w g y n a b r p q k u v s m ps)), (true = true)]) zk
    ⟨zds, (by exact below2 (lim := 0) rfl rfl 0 1 (N := []) hC (mix_all _ _) (ints_all _) rfl (fun k X h => by simp at h) rfl rfl zz), zdf, rfl, zo, (lnPoint _ _), zdf, inR_i64 zo zo, rfl, (lnRadius _), (by exact below_ro (lim := 0) (N := []) rfl rfl (fun k => 2) (fun _ => false) (lnOthers os m W hz hmb) ⟨⟨_, _, rfl, ints_all _, .inl ⟨rfl, _, rfl⟩⟩, trivial⟩ (fun _ _ => rfl) rfl rfl rfl (fun k X h => by simp at h) zz), zds, rfl, zo, zdf, inR_i64 zo zo, rfl, zo, zdf, inR_i64 zo zo, rfl, rfl, (lnBetween _ _ _), zdf, (lnBetween _ _ _), rfl, zdf, (by exact below_ro (lim := 0) (N := [some (.cells (ints ps) 26 (.row 3))]) rfl rfl (fun k => if k = 0 then 0 else 1) (fun _ => false) hpo ⟨⟨_, _, rfl, mix_all _ _, .inl ⟨rfl, _, rfl⟩⟩, ⟨_, _, rfl, ints_all _, .inl ⟨rfl, _, rfl⟩⟩, trivial⟩ (fun _ _ => rfl) rfl rfl rfl (new_row _ _ _) zz), (by exact below_ro (lim := 0) (N := []) rfl rfl (fun k => if k = 0 then 13 else 10) (fun _ => false) (lnContains ps c _ u v s zo zo hd hq2) ⟨⟨_, _, rfl, ints_all _, .inl ⟨rfl, _, rfl⟩⟩, ⟨_, _, rfl, rfl, .inl ⟨rfl, _, rfl⟩⟩, trivial⟩ (fun _ _ => rfl) rfl rfl rfl (fun k X h => by simp at h) zz), rfl, zdf, (by exact below_ro (lim := 0) (N := []) rfl rfl (fun k => if k = 0 then 2 else 10) (fun _ => false) (lnContains os m W u v s hz hm1 hd hq1) ⟨⟨_, _, rfl, ints_all _, .inl ⟨rfl, _, rfl⟩⟩, ⟨_, _, rfl, rfl, .inl ⟨rfl, _, rfl⟩⟩, trivial⟩ (fun _ _ => rfl) rfl rfl rfl (fun k X h => by simp at h) zz), rfl, trivial⟩) zk zt1
theorem lnMay_ok_2 (E : Int) (hC : (zq220 nm w g y n a b r p q k gs T cs U E)) (os : List Int) (m : Nat) (W : Nat) (u v s : Int) (hz : m * 3 ≤ os.length) (hmb : m ≤ 1000000) (hE : E = 0) (hP : M.ptE u v = 0) (hS : M.radE s = 0) (hO : M.othE os m = 0) (ps : List Int) (c : Nat) (hpo : (zq199 nm w g y n a b r p q k gs T cs U c ps)) (hzl : ps.length = c * 3) (hc : c ≤ 100) (hm1 : m ≤ 1000) (hd : chkDisc u v s = 0) (hq1 : ∀ i : Nat, i < m → chkDisc (at' os (i * 3)) (at' os (i * 3 + 1)) (at' os (i * 3 + 2)) = 0) (hq2 : ∀ i : Nat, i < c → chkDisc (at' ps (i * 3)) (at' ps (i * 3 + 1)) (at' ps (i * 3 + 2)) = 0) (f0 : M.btw u 0 w = true) (f1 : M.btw v 0 g = true) (f2 : M.tchA ps c u v s = true) : Meets cfx 0 32 (zq223 nm w g y n a b r p q k u v s m) [bkG gs T, bkI cs U, bkI os W] (V.raw (.tuple { toList := [.bool false, .int .i64 0] })) [bkG gs T, bkI cs U, bkI os W] := by
  refine Meets.post (meets_ev cfx_mixed cfx_call zz zb (n := 40) (ans := [Ans.go, Ans.go, Ans.reth (iV E) (zq177 gs T cs U os W nm w g y n a b r p q k u v), zF, zT, Ans.ret (iV (M.ptE u v)), zF, zF, Ans.ret (iV (M.radE s)), Ans.reth (iV (M.othE os m)) (zq152 gs T cs U os W nm w g y n a b r p q k u v), Ans.go, zT, zF, zT, zF, zF, zF, Ans.go, Ans.go, Ans.ret (V.raw (.bool (M.btw u 0 w))), zT, Ans.ret (V.raw (.bool (M.btw v 0 g))), zT, zT, Ans.reth (.slo 13 c) (zq89 gs T cs U os W nm w g y n a b r p q k u v s m ps), Ans.reth (V.raw (.bool (M.tchA ps c u v s))) (zq89 gs T cs U os W nm w g y n a b r p q k u v s m ps), zT, zF, zF]) (v := V.raw (.tuple { toList := [.bool false, .int .i64 0] })) (h' := (zq89 gs T cs U os W nm w g y n a b r p q k u v s m ps)) (cons := [(1 ≤ 9223372036854775807), ((zq93 nm w g y n a b r p q k gs T cs U os W u v E)), ((!decide (E = 0)) = false), (true = true), ((0 : Int) ≤ (0 : Int) ∧ (0 : Int) < (1 : Int)), (Ret cfx 56 [V.raw (.agg { toList := [.int .i64 u, .int .i64 v] })] (iV (M.ptE u v))), ((!decide (M.ptE u v = 0)) = false), (inR IntKind.i64 1), (false = false), (Ret cfx 80 [iV s] (iV (M.radE s))), ((zq85 m gs T cs U os W nm w g y n a b r p q k u v)), (2 ≤ 9223372036854775807), (true = true), ((0 : Int) ≤ (0 : Int) ∧ (0 : Int) < (2 : Int)), ((!decide (M.radE s = 0)) = false), (inR IntKind.i64 1), (true = true), ((0 : Int) ≤ (1 : Int) ∧ (1 : Int) < (2 : Int)), ((!decide (M.othE os m = 0)) = false), (inR IntKind.i64 2), (false = false), (false = false), (Ret cfx 69 [iV u, iV 0, iV w] (V.raw (.bool (M.btw u 0 w)))), (M.btw u 0 w = true), (Ret cfx 69 [iV v, iV 0, iV g] (V.raw (.bool (M.btw v 0 g)))), (true = true), (M.btw v 0 g = true), ((zq33 nm w g y n a b r p q k gs T cs U os W u v s m c ps)), ((zq32 c gs T cs U os W nm w g y n a b r p q k u v s m ps)), (true = true), ((!M.tchA ps c u v s) = false), (false = false)]) zk
    ⟨zds, (by exact below2 (lim := 0) rfl rfl 0 1 (N := []) hC (mix_all _ _) (ints_all _) rfl (fun k X h => by simp at h) rfl rfl zz), zdf, rfl, zo, (lnPoint _ _), zdf, inR_i64 zo zo, rfl, (lnRadius _), (by exact below_ro (lim := 0) (N := []) rfl rfl (fun k => 2) (fun _ => false) (lnOthers os m W hz hmb) ⟨⟨_, _, rfl, ints_all _, .inl ⟨rfl, _, rfl⟩⟩, trivial⟩ (fun _ _ => rfl) rfl rfl rfl (fun k X h => by simp at h) zz), zds, rfl, zo, zdf, inR_i64 zo zo, rfl, zo, zdf, inR_i64 zo zo, rfl, rfl, (lnBetween _ _ _), zdf, (lnBetween _ _ _), rfl, zdf, (by exact below_ro (lim := 0) (N := [some (.cells (ints ps) 26 (.row 3))]) rfl rfl (fun k => if k = 0 then 0 else 1) (fun _ => false) hpo ⟨⟨_, _, rfl, mix_all _ _, .inl ⟨rfl, _, rfl⟩⟩, ⟨_, _, rfl, ints_all _, .inl ⟨rfl, _, rfl⟩⟩, trivial⟩ (fun _ _ => rfl) rfl rfl rfl (new_row _ _ _) zz), (by exact below_ro (lim := 0) (N := []) rfl rfl (fun k => if k = 0 then 13 else 10) (fun _ => false) (lnContains ps c _ u v s zo zo hd hq2) ⟨⟨_, _, rfl, ints_all _, .inl ⟨rfl, _, rfl⟩⟩, ⟨_, _, rfl, rfl, .inl ⟨rfl, _, rfl⟩⟩, trivial⟩ (fun _ _ => rfl) rfl rfl rfl (fun k X h => by simp at h) zz), rfl, zdf, rfl, trivial⟩) zk zt1
abbrev zq94 (gs : List Int) (T : Nat) (cs : List Int) (U : Nat) (os : List Int) (W : Nat) (nm : ByteArray) (w : Int) (g : Int) (y : Int) (n : Nat) (a : Int) (b : Int) (r : Int) (p : Int) (q : Int) (k : Nat) (u : Int) (v : Int) (s : Int) (m : Nat) : Heap := [bkG gs T, bkI cs U, bkI os W, bkW nm w g y n a b r p q k, bkP u v, some (.cells [iV u, iV v] 24 (.row 2)), bkW nm w g y n a b r p q k, bkP u v, some (.cells [iV (M.radE s), iV (M.othE os m)] 33 (.row 1)), bkP u v, some (.cells [iV u, iV v, iV s] 26 .rw), bkW nm w g y n a b r p q k, bkP u v]
theorem lnMay_ok_3 (E : Int) (hC : (zq220 nm w g y n a b r p q k gs T cs U E)) (os : List Int) (m : Nat) (W : Nat) (u v s : Int) (hz : m * 3 ≤ os.length) (hmb : m ≤ 1000000) (hE : E = 0) (hP : M.ptE u v = 0) (hS : M.radE s = 0) (hO : M.othE os m = 0) (ps : List Int) (c : Nat) (hpo : (zq199 nm w g y n a b r p q k gs T cs U c ps)) (hzl : ps.length = c * 3) (hc : c ≤ 100) (hm1 : m ≤ 1000) (hd : chkDisc u v s = 0) (hq1 : ∀ i : Nat, i < m → chkDisc (at' os (i * 3)) (at' os (i * 3 + 1)) (at' os (i * 3 + 2)) = 0) (hq2 : ∀ i : Nat, i < c → chkDisc (at' ps (i * 3)) (at' ps (i * 3 + 1)) (at' ps (i * 3 + 2)) = 0) (f0 : M.btw u 0 w = true) (f1 : M.btw v 0 g = false) : Meets cfx 0 32 (zq223 nm w g y n a b r p q k u v s m) [bkG gs T, bkI cs U, bkI os W] (V.raw (.tuple { toList := [.bool false, .int .i64 0] })) [bkG gs T, bkI cs U, bkI os W] := by
  refine Meets.post (meets_ev cfx_mixed cfx_call zz zb (n := 40) (ans := [Ans.go, Ans.go, Ans.reth (iV E) (zq177 gs T cs U os W nm w g y n a b r p q k u v), zF, zT, Ans.ret (iV (M.ptE u v)), zF, zF, Ans.ret (iV (M.radE s)), Ans.reth (iV (M.othE os m)) (zq152 gs T cs U os W nm w g y n a b r p q k u v), Ans.go, zT, zF, zT, zF, zF, zF, Ans.go, Ans.go, Ans.ret (V.raw (.bool (M.btw u 0 w))), zT, Ans.ret (V.raw (.bool (M.btw v 0 g))), zT, zF, zF, zF, zF]) (v := V.raw (.tuple { toList := [.bool false, .int .i64 0] })) (h' := (zq94 gs T cs U os W nm w g y n a b r p q k u v s m)) (cons := [(1 ≤ 9223372036854775807), ((zq93 nm w g y n a b r p q k gs T cs U os W u v E)), ((!decide (E = 0)) = false), (true = true), ((0 : Int) ≤ (0 : Int) ∧ (0 : Int) < (1 : Int)), (Ret cfx 56 [V.raw (.agg { toList := [.int .i64 u, .int .i64 v] })] (iV (M.ptE u v))), ((!decide (M.ptE u v = 0)) = false), (inR IntKind.i64 1), (false = false), (Ret cfx 80 [iV s] (iV (M.radE s))), ((zq85 m gs T cs U os W nm w g y n a b r p q k u v)), (2 ≤ 9223372036854775807), (true = true), ((0 : Int) ≤ (0 : Int) ∧ (0 : Int) < (2 : Int)), ((!decide (M.radE s = 0)) = false), (inR IntKind.i64 1), (true = true), ((0 : Int) ≤ (1 : Int) ∧ (1 : Int) < (2 : Int)), ((!decide (M.othE os m = 0)) = false), (inR IntKind.i64 2), (false = false), (false = false), (Ret cfx 69 [iV u, iV 0, iV w] (V.raw (.bool (M.btw u 0 w)))), (M.btw u 0 w = true), (Ret cfx 69 [iV v, iV 0, iV g] (V.raw (.bool (M.btw v 0 g)))), (true = true), (M.btw v 0 g = false), (false = false), (false = false), (false = false)]) zk
    ⟨zds, (by exact below2 (lim := 0) rfl rfl 0 1 (N := []) hC (mix_all _ _) (ints_all _) rfl (fun k X h => by simp at h) rfl rfl zz), zdf, rfl, zo, (lnPoint _ _), zdf, inR_i64 zo zo, rfl, (lnRadius _), (by exact below_ro (lim := 0) (N := []) rfl rfl (fun k => 2) (fun _ => false) (lnOthers os m W hz hmb) ⟨⟨_, _, rfl, ints_all _, .inl ⟨rfl, _, rfl⟩⟩, trivial⟩ (fun _ _ => rfl) rfl rfl rfl (fun k X h => by simp at h) zz), zds, rfl, zo, zdf, inR_i64 zo zo, rfl, zo, zdf, inR_i64 zo zo, rfl, rfl, (lnBetween _ _ _), zdf, (lnBetween _ _ _), rfl, zdf, rfl, rfl, rfl, trivial⟩) zk zt1
theorem lnMay_ok_4 (E : Int) (hC : (zq220 nm w g y n a b r p q k gs T cs U E)) (os : List Int) (m : Nat) (W : Nat) (u v s : Int) (hz : m * 3 ≤ os.length) (hmb : m ≤ 1000000) (hE : E = 0) (hP : M.ptE u v = 0) (hS : M.radE s = 0) (hO : M.othE os m = 0) (ps : List Int) (c : Nat) (hpo : (zq199 nm w g y n a b r p q k gs T cs U c ps)) (hzl : ps.length = c * 3) (hc : c ≤ 100) (hm1 : m ≤ 1000) (hd : chkDisc u v s = 0) (hq1 : ∀ i : Nat, i < m → chkDisc (at' os (i * 3)) (at' os (i * 3 + 1)) (at' os (i * 3 + 2)) = 0) (hq2 : ∀ i : Nat, i < c → chkDisc (at' ps (i * 3)) (at' ps (i * 3 + 1)) (at' ps (i * 3 + 2)) = 0) (f0 : M.btw u 0 w = false) : Meets cfx 0 32 (zq223 nm w g y n a b r p q k u v s m) [bkG gs T, bkI cs U, bkI os W] (V.raw (.tuple { toList := [.bool false, .int .i64 0] })) [bkG gs T, bkI cs U, bkI os W] := by
  refine Meets.post (meets_ev cfx_mixed cfx_call zz zb (n := 40) (ans := [Ans.go, Ans.go, Ans.reth (iV E) (zq177 gs T cs U os W nm w g y n a b r p q k u v), zF, zT, Ans.ret (iV (M.ptE u v)), zF, zF, Ans.ret (iV (M.radE s)), Ans.reth (iV (M.othE os m)) (zq152 gs T cs U os W nm w g y n a b r p q k u v), Ans.go, zT, zF, zT, zF, zF, zF, Ans.go, Ans.go, Ans.ret (V.raw (.bool (M.btw u 0 w))), zF, zF, zF, zF, zF, zF]) (v := V.raw (.tuple { toList := [.bool false, .int .i64 0] })) (h' := (zq94 gs T cs U os W nm w g y n a b r p q k u v s m)) (cons := [(1 ≤ 9223372036854775807), ((zq93 nm w g y n a b r p q k gs T cs U os W u v E)), ((!decide (E = 0)) = false), (true = true), ((0 : Int) ≤ (0 : Int) ∧ (0 : Int) < (1 : Int)), (Ret cfx 56 [V.raw (.agg { toList := [.int .i64 u, .int .i64 v] })] (iV (M.ptE u v))), ((!decide (M.ptE u v = 0)) = false), (inR IntKind.i64 1), (false = false), (Ret cfx 80 [iV s] (iV (M.radE s))), ((zq85 m gs T cs U os W nm w g y n a b r p q k u v)), (2 ≤ 9223372036854775807), (true = true), ((0 : Int) ≤ (0 : Int) ∧ (0 : Int) < (2 : Int)), ((!decide (M.radE s = 0)) = false), (inR IntKind.i64 1), (true = true), ((0 : Int) ≤ (1 : Int) ∧ (1 : Int) < (2 : Int)), ((!decide (M.othE os m = 0)) = false), (inR IntKind.i64 2), (false = false), (false = false), (Ret cfx 69 [iV u, iV 0, iV w] (V.raw (.bool (M.btw u 0 w)))), (M.btw u 0 w = false), (false = false), (false = false), (false = false), (false = false), (false = false)]) zk
    ⟨zds, (by exact below2 (lim := 0) rfl rfl 0 1 (N := []) hC (mix_all _ _) (ints_all _) rfl (fun k X h => by simp at h) rfl rfl zz), zdf, rfl, zo, (lnPoint _ _), zdf, inR_i64 zo zo, rfl, (lnRadius _), (by exact below_ro (lim := 0) (N := []) rfl rfl (fun k => 2) (fun _ => false) (lnOthers os m W hz hmb) ⟨⟨_, _, rfl, ints_all _, .inl ⟨rfl, _, rfl⟩⟩, trivial⟩ (fun _ _ => rfl) rfl rfl rfl (fun k X h => by simp at h) zz), zds, rfl, zo, zdf, inR_i64 zo zo, rfl, zo, zdf, inR_i64 zo zo, rfl, rfl, (lnBetween _ _ _), zdf, rfl, rfl, rfl, rfl, rfl, trivial⟩) zk zt1
theorem lnMay_ok (E : Int) (hC : (zq220 nm w g y n a b r p q k gs T cs U E)) (os : List Int) (m : Nat) (W : Nat) (u v s : Int) (hz : m * 3 ≤ os.length) (hmb : m ≤ 1000000) (hE : E = 0) (hP : M.ptE u v = 0) (hS : M.radE s = 0) (hO : M.othE os m = 0) (ps : List Int) (c : Nat) (hpo : (zq199 nm w g y n a b r p q k gs T cs U c ps)) (hzl : ps.length = c * 3) (hc : c ≤ 100) (hm1 : m ≤ 1000) (hd : chkDisc u v s = 0) (hq1 : ∀ i : Nat, i < m → chkDisc (at' os (i * 3)) (at' os (i * 3 + 1)) (at' os (i * 3 + 2)) = 0) (hq2 : ∀ i : Nat, i < c → chkDisc (at' ps (i * 3)) (at' ps (i * 3 + 1)) (at' ps (i * 3 + 2)) = 0) : Meets cfx 0 32 (zq223 nm w g y n a b r p q k u v s m) [bkG gs T, bkI cs U, bkI os W] (.raw (.tuple #[.bool ((M.btw u 0 w && M.btw v 0 g) && (!M.tchA ps c u v s && !M.tchA os m u v s)), .int .i64 0])) [bkG gs T, bkI cs U, bkI os W] := by
  by_cases f0 : M.btw u 0 w = true
  ·
    by_cases f1 : M.btw v 0 g = true
    ·
      by_cases f2 : M.tchA ps c u v s = false
      ·
        have e : (.raw (.tuple #[.bool ((M.btw u 0 w && M.btw v 0 g) && (!M.tchA ps c u v s && !M.tchA os m u v s)), .int .i64 0]) : V) = V.raw (.tuple { toList := [.bool !M.tchA os m u v s, .int .i64 0] }) := by (first | rfl | simp_all)
        rw [e]
        exact lnMay_ok_1 nm gs cs n k T U w g y a b r p q E hC os m W u v s hz hmb hE hP hS hO ps c hpo hzl hc hm1 hd hq1 hq2 f0 f1 f2
      ·
        replace f2 : M.tchA ps c u v s = true := by simpa using f2
        have e : (.raw (.tuple #[.bool ((M.btw u 0 w && M.btw v 0 g) && (!M.tchA ps c u v s && !M.tchA os m u v s)), .int .i64 0]) : V) = V.raw (.tuple { toList := [.bool false, .int .i64 0] }) := by (first | rfl | simp_all)
        rw [e]
        exact lnMay_ok_2 nm gs cs n k T U w g y a b r p q E hC os m W u v s hz hmb hE hP hS hO ps c hpo hzl hc hm1 hd hq1 hq2 f0 f1 f2
    ·
      replace f1 : M.btw v 0 g = false := by simpa using f1
      have e : (.raw (.tuple #[.bool ((M.btw u 0 w && M.btw v 0 g) && (!M.tchA ps c u v s && !M.tchA os m u v s)), .int .i64 0]) : V) = V.raw (.tuple { toList := [.bool false, .int .i64 0] }) := by (first | rfl | simp_all)
      rw [e]
      exact lnMay_ok_3 nm gs cs n k T U w g y a b r p q E hC os m W u v s hz hmb hE hP hS hO ps c hpo hzl hc hm1 hd hq1 hq2 f0 f1
  ·
    replace f0 : M.btw u 0 w = false := by simpa using f0
    have e : (.raw (.tuple #[.bool ((M.btw u 0 w && M.btw v 0 g) && (!M.tchA ps c u v s && !M.tchA os m u v s)), .int .i64 0]) : V) = V.raw (.tuple { toList := [.bool false, .int .i64 0] }) := by (first | rfl | simp_all)
    rw [e]
    exact lnMay_ok_4 nm gs cs n k T U w g y a b r p q E hC os m W u v s hz hmb hE hP hS hO ps c hpo hzl hc hm1 hd hq1 hq2 f0
abbrev zq211 (gs : List Int) (T : Nat) (cs : List Int) (U : Nat) (os : List Int) (W : Nat) (nm : ByteArray) (w : Int) (g : Int) (y : Int) (n : Nat) (a : Int) (b : Int) (r : Int) (p : Int) (q : Int) (k : Nat) (u : Int) (v : Int) : Heap := [bkG gs T, bkI cs U, bkI os W, bkW nm w g y n a b r p q k, bkP u v]
theorem rnMay_bad_1 (os : List Int) (m : Nat) (W : Nat) (u v s : Int) (te : Int) (he : ¬ te = 0) (hfd : Meets cfx 0 31 (zq223 nm w g y n a b r p q k u v s m) [bkG gs T, bkI cs U, bkI os W] (.raw (.tuple #[.slice none 0 0, .int .i64 te])) [bkG gs T, bkI cs U, bkI os W])  : Meets cfx 0 33 (zq223 nm w g y n a b r p q k u v s m) [bkG gs T, bkI cs U, bkI os W] (V.raw (.tuple { toList := [.bool false, .int .i64 te] })) [bkG gs T, bkI cs U, bkI os W] := by
  refine Meets.post (meets_ev cfx_mixed cfx_call zz zb (n := 40) (ans := [Ans.go, Ans.reth (V.raw (.tuple { toList := [Value.slice none 0 0, .int .i64 te] })) (zq211 gs T cs U os W nm w g y n a b r p q k u v), zT]) (v := V.raw (.tuple { toList := [.bool false, .int .i64 te] })) (h' := (zq211 gs T cs U os W nm w g y n a b r p q k u v)) (cons := [(Meets cfx 0 31 [lwA nm w g y n a b r p q k, V.raw (.agg { toList := [.int .i64 u, .int .i64 v] }), iV s, .slo 2 m] (zq211 gs T cs U os W nm w g y n a b r p q k u v) (V.raw (.tuple { toList := [Value.slice none 0 0, .int .i64 te] })) (zq211 gs T cs U os W nm w g y n a b r p q k u v)), ((!decide (te = 0)) = true)]) zk
    ⟨(by exact below_ro (lim := 0) (N := []) rfl rfl (fun k => if k = 0 then 0 else if k = 1 then 1 else 2) (fun _ => false) hfd ⟨⟨_, _, rfl, mix_all _ _, .inl ⟨rfl, _, rfl⟩⟩, ⟨_, _, rfl, ints_all _, .inl ⟨rfl, _, rfl⟩⟩, ⟨_, _, rfl, ints_all _, .inl ⟨rfl, _, rfl⟩⟩, trivial⟩ (fun _ _ => rfl) rfl rfl rfl (fun k X h => by simp at h) zz), zdf, trivial⟩) zk zt1
theorem rnMay_bad (os : List Int) (m : Nat) (W : Nat) (u v s : Int) (te : Int) (he : ¬ te = 0) (hfd : Meets cfx 0 31 (zq223 nm w g y n a b r p q k u v s m) [bkG gs T, bkI cs U, bkI os W] (.raw (.tuple #[.slice none 0 0, .int .i64 te])) [bkG gs T, bkI cs U, bkI os W]) : Meets cfx 0 33 (zq223 nm w g y n a b r p q k u v s m) [bkG gs T, bkI cs U, bkI os W] (.raw (.tuple #[.bool false, .int .i64 te])) [bkG gs T, bkI cs U, bkI os W] := by
  have e : (.raw (.tuple #[.bool false, .int .i64 te]) : V) = V.raw (.tuple { toList := [.bool false, .int .i64 te] }) := by rfl
  rw [e]
  exact rnMay_bad_1 nm gs cs n k T U w g y a b r p q os m W u v s te he hfd
abbrev zq101 (nm : ByteArray) (w : Int) (g : Int) (y : Int) (n : Nat) (a : Int) (b : Int) (r : Int) (p : Int) (q : Int) (k : Nat) (u : Int) (v : Int) (s : Int) (m : Nat) (gs : List Int) (T : Nat) (cs : List Int) (U : Nat) (os : List Int) (W : Nat) (cn : Nat) (hs : List Int) : Prop := Meets cfx 0 31 [lwA nm w g y n a b r p q k, V.raw (.agg { toList := [.int .i64 u, .int .i64 v] }), iV s, .slo 2 m] [bkG gs T, bkI cs U, bkI os W, bkW nm w g y n a b r p q k, bkP u v] (V.tup [.slo 5 cn, iV 0]) [bkG gs T, bkI cs U, bkI os W, bkW nm w g y n a b r p q k, bkP u v, some (.cells (ints hs) 3 (.row 1))]
abbrev zq149 (nm : ByteArray) (w : Int) (g : Int) (y : Int) (n : Nat) (a : Int) (b : Int) (r : Int) (p : Int) (q : Int) (k : Nat) (u : Int) (v : Int) (s : Int) (m : Nat) (gs : List Int) (T : Nat) (cs : List Int) (U : Nat) (os : List Int) (W : Nat) (cn : Nat) (hs : List Int) : Prop := Meets cfx 0 31 [lwA nm w g y n a b r p q k, .raw (.agg #[.int .i64 u, .int .i64 v]), .raw (.int .i64 s), .slo 2 m] [bkG gs T, bkI cs U, bkI os W] (.tup [.slo 3 cn, .raw (.int .i64 0)]) ([bkG gs T, bkI cs U, bkI os W, some (.cells (ints hs) 3 (.row 1))])
abbrev zq194 (gs : List Int) (T : Nat) (cs : List Int) (U : Nat) (os : List Int) (W : Nat) (nm : ByteArray) (w : Int) (g : Int) (y : Int) (n : Nat) (a : Int) (b : Int) (r : Int) (p : Int) (q : Int) (k : Nat) (u : Int) (v : Int) (hs : List Int) : Heap := [bkG gs T, bkI cs U, bkI os W, bkW nm w g y n a b r p q k, bkP u v, some (.cells (ints hs) 3 (.row 1))]
theorem rnMay_ok_1 (os : List Int) (m : Nat) (W : Nat) (u v s : Int) (hs : List Int) (cn : Nat) (hfd : (zq149 nm w g y n a b r p q k u v s m gs T cs U os W cn hs)) (f0 : (cn : Int) = 0) (f1 : M.btw u 0 w = true) : Meets cfx 0 33 (zq223 nm w g y n a b r p q k u v s m) [bkG gs T, bkI cs U, bkI os W] (V.raw (.tuple { toList := [.bool (M.btw v 0 g), .int .i64 0] })) [bkG gs T, bkI cs U, bkI os W] := by
  refine Meets.post (meets_ev cfx_mixed cfx_call zz zb (n := 40) (ans := [Ans.go, Ans.reth (V.tup [.slo 5 cn, iV 0]) (zq194 gs T cs U os W nm w g y n a b r p q k u v hs), zF, zT, Ans.go, Ans.ret (V.raw (.bool (M.btw u 0 w))), zT, Ans.ret (V.raw (.bool (M.btw v 0 g))), zT, zT]) (v := V.raw (.tuple { toList := [.bool (M.btw v 0 g), .int .i64 0] })) (h' := [bkG gs T, bkI cs U, bkI os W, bkW nm w g y n a b r p q k, bkP u v, some (.cells (ints hs) 3 (.row 1)), bkW nm w g y n a b r p q k, bkP u v]) (cons := [((zq101 nm w g y n a b r p q k u v s m gs T cs U os W cn hs)), (false = false), (decide ((cn : Int) = 0) = true), (Ret cfx 70 [iV u, iV 0, iV w] (V.raw (.bool (M.btw u 0 w)))), (M.btw u 0 w = true), (Ret cfx 70 [iV v, iV 0, iV g] (V.raw (.bool (M.btw v 0 g)))), (true = true), (true = true)]) zk
    ⟨(by exact below_ro (lim := 0) (N := [some (.cells (ints hs) 3 (.row 1))]) rfl rfl (fun k => if k = 0 then 0 else if k = 1 then 1 else 2) (fun _ => false) hfd ⟨⟨_, _, rfl, mix_all _ _, .inl ⟨rfl, _, rfl⟩⟩, ⟨_, _, rfl, ints_all _, .inl ⟨rfl, _, rfl⟩⟩, ⟨_, _, rfl, ints_all _, .inl ⟨rfl, _, rfl⟩⟩, trivial⟩ (fun _ _ => rfl) rfl rfl rfl (new_row _ _ _) zz), rfl, zdf, (lnWithin _ _ _), zdf, (lnWithin _ _ _), rfl, rfl, trivial⟩) zk zt1
theorem rnMay_ok_2 (os : List Int) (m : Nat) (W : Nat) (u v s : Int) (hs : List Int) (cn : Nat) (hfd : (zq149 nm w g y n a b r p q k u v s m gs T cs U os W cn hs)) (f0 : (cn : Int) = 0) (f1 : M.btw u 0 w = false) : Meets cfx 0 33 (zq223 nm w g y n a b r p q k u v s m) [bkG gs T, bkI cs U, bkI os W] (V.raw (.tuple { toList := [.bool false, .int .i64 0] })) [bkG gs T, bkI cs U, bkI os W] := by
  refine Meets.post (meets_ev cfx_mixed cfx_call zz zb (n := 40) (ans := [Ans.go, Ans.reth (V.tup [.slo 5 cn, iV 0]) (zq194 gs T cs U os W nm w g y n a b r p q k u v hs), zF, zT, Ans.go, Ans.ret (V.raw (.bool (M.btw u 0 w))), zF, zF, zT]) (v := V.raw (.tuple { toList := [.bool false, .int .i64 0] })) (h' := [bkG gs T, bkI cs U, bkI os W, bkW nm w g y n a b r p q k, bkP u v, some (.cells (ints hs) 3 (.row 1)), bkW nm w g y n a b r p q k, bkP u v]) (cons := [((zq101 nm w g y n a b r p q k u v s m gs T cs U os W cn hs)), (false = false), (decide ((cn : Int) = 0) = true), (Ret cfx 70 [iV u, iV 0, iV w] (V.raw (.bool (M.btw u 0 w)))), (M.btw u 0 w = false), (false = false), (true = true)]) zk
    ⟨(by exact below_ro (lim := 0) (N := [some (.cells (ints hs) 3 (.row 1))]) rfl rfl (fun k => if k = 0 then 0 else if k = 1 then 1 else 2) (fun _ => false) hfd ⟨⟨_, _, rfl, mix_all _ _, .inl ⟨rfl, _, rfl⟩⟩, ⟨_, _, rfl, ints_all _, .inl ⟨rfl, _, rfl⟩⟩, ⟨_, _, rfl, ints_all _, .inl ⟨rfl, _, rfl⟩⟩, trivial⟩ (fun _ _ => rfl) rfl rfl rfl (new_row _ _ _) zz), rfl, zdf, (lnWithin _ _ _), zdf, rfl, rfl, trivial⟩) zk zt1
theorem rnMay_ok_3 (os : List Int) (m : Nat) (W : Nat) (u v s : Int) (hs : List Int) (cn : Nat) (hfd : (zq149 nm w g y n a b r p q k u v s m gs T cs U os W cn hs)) (f0 : ¬(cn : Int) = 0) : Meets cfx 0 33 (zq223 nm w g y n a b r p q k u v s m) [bkG gs T, bkI cs U, bkI os W] (V.raw (.tuple { toList := [.bool false, .int .i64 0] })) [bkG gs T, bkI cs U, bkI os W] := by
  refine Meets.post (meets_ev cfx_mixed cfx_call zz zb (n := 40) (ans := [Ans.go, Ans.reth (V.tup [.slo 5 cn, iV 0]) (zq194 gs T cs U os W nm w g y n a b r p q k u v hs), zF, zF, zF]) (v := V.raw (.tuple { toList := [.bool false, .int .i64 0] })) (h' := (zq194 gs T cs U os W nm w g y n a b r p q k u v hs)) (cons := [((zq101 nm w g y n a b r p q k u v s m gs T cs U os W cn hs)), (false = false), (decide ((cn : Int) = 0) = false), (false = false)]) zk
    ⟨(by exact below_ro (lim := 0) (N := [some (.cells (ints hs) 3 (.row 1))]) rfl rfl (fun k => if k = 0 then 0 else if k = 1 then 1 else 2) (fun _ => false) hfd ⟨⟨_, _, rfl, mix_all _ _, .inl ⟨rfl, _, rfl⟩⟩, ⟨_, _, rfl, ints_all _, .inl ⟨rfl, _, rfl⟩⟩, ⟨_, _, rfl, ints_all _, .inl ⟨rfl, _, rfl⟩⟩, trivial⟩ (fun _ _ => rfl) rfl rfl rfl (new_row _ _ _) zz), rfl, zdf, rfl, trivial⟩) zk zt1
theorem rnMay_ok (os : List Int) (m : Nat) (W : Nat) (u v s : Int) (hs : List Int) (cn : Nat) (hfd : (zq149 nm w g y n a b r p q k u v s m gs T cs U os W cn hs)) : Meets cfx 0 33 (zq223 nm w g y n a b r p q k u v s m) [bkG gs T, bkI cs U, bkI os W] (.raw (.tuple #[.bool (decide ((cn : Int) = 0) && (M.btw u 0 w && M.btw v 0 g)), .int .i64 0])) [bkG gs T, bkI cs U, bkI os W] := by
  by_cases f0 : (cn : Int) = 0
  ·
    by_cases f1 : M.btw u 0 w = true
    ·
      have e : (.raw (.tuple #[.bool (decide ((cn : Int) = 0) && (M.btw u 0 w && M.btw v 0 g)), .int .i64 0]) : V) = V.raw (.tuple { toList := [.bool (M.btw v 0 g), .int .i64 0] }) := by (first | rfl | simp_all)
      rw [e]
      exact rnMay_ok_1 nm gs cs n k T U w g y a b r p q os m W u v s hs cn hfd f0 f1
    ·
      replace f1 : M.btw u 0 w = false := by simpa using f1
      have e : (.raw (.tuple #[.bool (decide ((cn : Int) = 0) && (M.btw u 0 w && M.btw v 0 g)), .int .i64 0]) : V) = V.raw (.tuple { toList := [.bool false, .int .i64 0] }) := by (first | rfl | simp_all)
      rw [e]
      exact rnMay_ok_2 nm gs cs n k T U w g y a b r p q os m W u v s hs cn hfd f0 f1
  ·
    have e : (.raw (.tuple #[.bool (decide ((cn : Int) = 0) && (M.btw u 0 w && M.btw v 0 g)), .int .i64 0]) : V) = V.raw (.tuple { toList := [.bool false, .int .i64 0] }) := by (first | rfl | simp_all)
    rw [e]
    exact rnMay_ok_3 nm gs cs n k T U w g y a b r p q os m W u v s hs cn hfd f0
theorem M.hits_none {f : Nat → Bool} {n : Nat} : (M.hits f n).length = 0 ↔ ∀ i : Nat, i < n → f i = false := by
  unfold M.hits
  rw [List.length_map, List.length_eq_zero_iff, List.filter_eq_nil_iff]
  constructor
  · intro h i hi
    have := h i (List.mem_range.2 hi)
    simpa using this
  · intro h i hi
    have := h i (List.mem_range.1 hi)
    simpa using this
theorem M.tchA_no {zs : List Int} {q : Nat} {u v s : Int} : M.tchA zs q u v s = false ↔ ∀ i : Nat, i < q → M.tchZ zs u v s i = false := by
  unfold M.tchA
  rw [Bool.not_eq_false', List.all_eq_true]
  constructor
  · intro h i hi
    have := h i (List.mem_range.2 hi)
    simpa using this
  · intro h i hi
    have := h i (List.mem_range.1 hi)
    simpa using this
theorem M.cat_free {ps os : List Int} {c m : Nat} {u v s : Int} (hl : ps.length = c * 3) : (∀ i : Nat, i < c + m → M.tchZ (ps ++ List.take (m * 3) os) u v s i = false) ↔ (M.tchA ps c u v s = false ∧ M.tchA os m u v s = false) := by
  rw [M.tchA_no, M.tchA_no]
  constructor
  · intro h
    constructor
    · intro i hi
      have := h i zo
      unfold M.tchZ at this ⊢
      rw [M.cat_left (by omega), M.cat_left (by omega), M.cat_left (by omega)] at this
      exact this
    · intro i hi
      have := h (c + i) zo
      unfold M.tchZ at this ⊢
      rw [show (c + i) * 3 + 1 = ps.length + (i * 3 + 1) by omega, show (c + i) * 3 + 2 = ps.length + (i * 3 + 2) by omega, show (c + i) * 3 = ps.length + i * 3 by omega, M.cat_right (by omega), M.cat_right (by omega), M.cat_right (by omega)] at this
      exact this
  · rintro ⟨h1, h2⟩ i hi
    by_cases hc : i < c
    · have := h1 i hc
      unfold M.tchZ at this ⊢
      rw [M.cat_left (by omega), M.cat_left (by omega), M.cat_left (by omega)]
      exact this
    · have := h2 (i - c) zo
      unfold M.tchZ at this ⊢
      rw [show i * 3 + 1 = ps.length + ((i - c) * 3 + 1) by omega, show i * 3 + 2 = ps.length + ((i - c) * 3 + 2) by omega, show i * 3 = ps.length + (i - c) * 3 by omega, M.cat_right (by omega), M.cat_right (by omega), M.cat_right (by omega)]
      exact this
theorem mayBoth (os : List Int) (m : Nat) (W : Nat) (u v s : Int) (hzg : n * 5 ≤ gs.length) (hzc : k * 3 ≤ cs.length) (hn : n ≤ 20) (hk : k ≤ 300) (hnm : nm.size ≤ 100) (hz : m * 3 ≤ os.length) (hmb : m ≤ 1000000) : ∃ (c : Bool) (e : Int), Meets cfx 0 32 (zq223 nm w g y n a b r p q k u v s m) [bkG gs T, bkI cs U, bkI os W] (.raw (.tuple #[.bool c, .int .i64 e])) [bkG gs T, bkI cs U, bkI os W] ∧ Meets cfx 0 33 (zq223 nm w g y n a b r p q k u v s m) [bkG gs T, bkI cs U, bkI os W] (.raw (.tuple #[.bool c, .int .i64 e])) [bkG gs T, bkI cs U, bkI os W] := by
  rcases touchBoth nm gs cs n k T U w g y a b r p q os m W u v s hzg hzc hn hk hnm hz hmb with ⟨he, _, h2⟩ | ⟨he, _, h2⟩
  · refine ⟨false, (M.wayE (M.lawnE nm gs cs n k w g y a b r p q) u v u v s os m), ?_, rnMay_bad nm gs cs n k T U w g y a b r p q os m W u v s _ he h2⟩
    have hC := lnCheck nm gs cs n k T U w g y a b r p q hzg hzc hn hk hnm
    revert he
    clear h2
    unfold M.wayE
    by_cases hE : M.lawnE nm gs cs n k w g y a b r p q = 0
    case neg =>
      rw [if_pos hE]
      exact fun _ => lnMay_E nm gs cs n k T U w g y a b r p q _ hC os m W u v s hz hmb hE
    rw [if_neg (by simp [hE])]
    rw [hE] at hC
    by_cases hP : M.ptE u v = 0
    case neg =>
      rw [if_pos hP]
      have h := lnMay_P nm gs cs n k T U w g y a b r p q 0 hC os m W u v s hz hmb rfl hP
      rw [(M.pt_or u v).resolve_left hP] at h
      exact fun _ => h
    rw [if_neg (by simp [hP]), if_neg (by simp [hP])]
    unfold M.ballE
    by_cases hS : M.radE s = 0
    case neg =>
      rw [if_neg hS]
      exact fun _ => lnMay_S nm gs cs n k T U w g y a b r p q 0 hC os m W u v s hz hmb rfl hP hS
    rw [if_pos hS]
    exact fun hO => lnMay_O nm gs cs n k T U w g y a b r p q 0 hC os m W u v s hz hmb rfl hP hS hO
  · obtain ⟨hE, hP, hS, hO⟩ := M.way_ok he
    have hC := lnCheck nm gs cs n k T U w g y a b r p q hzg hzc hn hk hnm
    rw [hE] at hC
    have hs2 := M.rad_iff.1 hS
    obtain ⟨hm12, hos⟩ := M.oth_ok hO
    have hh := (M.lawn_ok hE).2.2.1
    have hn12 := (M.lawn_ok hE).1
    have hp1 := lnPosts nm gs cs n k T U w g y a b r p q hzg hn hh
    have hl := M.rowP_len gs n a b r
    have hpf := M.post_facts hE
    have ha := M.pt_iff.1 hP
    have hd : chkDisc u v s = 0 := chkDisc_fit zo ha.1 ha.2
    have hq1 : ∀ i : Nat, i < m → chkDisc (at' os (i * 3)) (at' os (i * 3 + 1)) (at' os (i * 3 + 2)) = 0 := fun i hi => by
      obtain ⟨q1, q2, q3⟩ := hos i hi
      exact chkDisc_fit zo q1.1 q1.2
    have hq2 : ∀ i : Nat, i < 2 * n + 1 → chkDisc (at' (M.rowP gs n a b r) (i * 3)) (at' (M.rowP gs n a b r) (i * 3 + 1)) (at' (M.rowP gs n a b r) (i * 3 + 2)) = 0 := fun i hi => by
      obtain ⟨q1, q2, q3⟩ := hpf i hi
      exact chkDisc_fit zo q1.1 q1.2
    have h1 := lnMay_ok nm gs cs n k T U w g y a b r p q 0 hC os m W u v s hz hmb rfl hP hS hO _ _ hp1 hl zo zo hd hq1 hq2
    have h3 := rnMay_ok nm gs cs n k T U w g y a b r p q os m W u v s _ _ h2
    have e : (decide (((M.hits (M.cutZ (M.rowP gs n a b r ++ List.take (m * 3) os) u v u v s) (2 * n + 1 + m)).length : Int) = 0) && (M.btw u 0 w && M.btw v 0 g)) = ((M.btw u 0 w && M.btw v 0 g) && (!M.tchA (M.rowP gs n a b r) (2 * n + 1) u v s && !M.tchA os m u v s)) := by
      rw [Bool.and_comm]
      congr 1
      rw [M.cut_self, Bool.eq_iff_iff, decide_eq_true_iff]
      have k := @M.hits_none (M.tchZ (M.rowP gs n a b r ++ List.take (m * 3) os) u v s) (2 * n + 1 + m)
      rw [M.cat_free hl] at k
      simp only [Bool.and_eq_true, Bool.not_eq_true']
      rw [← k]
      omega
    rw [e] at h3
    exact ⟨_, _, h1, h3⟩
end Go.Proofs.Ytmelbcmfahcffaa
end
section
namespace Go.Proofs.Ytmelbcmfahcffaa
open Go Go.RowKit Go.Proofs.Ytmelbcmfahcffaa.E2
abbrev zq159 (q : Nat) (i : Int) : List V := (catV [.slo 0 q, .slo 1 q, uV, uV, V.raw (.bool false), iV i] (anyR 6 20 []))
def sam_T (xs : List Int) (q : Nat) (T1 T2 : Nat) (i : Int) : List V := (zq159 q i)
def sam_H (xs : List Int) (q : Nat) (T1 T2 : Nat) (i : Int) : Heap := [some (.cells (ints xs) T1 .ro), some (.cells (ints xs) T2 .ro)]
theorem sam_1 (xs : List Int) (q : Nat) (T1 T2 : Nat) (hl : xs.length = q) (hq : q ≤ 1000) (i : Int) (hi1 : 0 ≤ i) (f0 : i < (q : Int)) : Runs cfx 0 2 none (loopOf cfx.P 34 0) (sam_T xs q T1 T2 i) (sam_H xs q T1 T2 i) (Ex.normal) (sam_T xs q T1 T2 (i + 1)) (sam_H xs q T1 T2 (i + 1)) := by
  refine Runs.post (t1 := [.slo 0 q, .slo 1 q, uV, uV, V.raw (.bool false), iV (i + 1), .any 6, .any 7, .any 8, .any 9, .any 10, iV i, .slo 0 q, iV (q : Int), V.raw (.bool (decide (i < (q : Int)))), iV i, iV (i + 1), .slo 0 q, iV i, V.ptr 0 (i.toNat * 1), iV (at' xs (i.toNat * 1)), .slo 1 q, iV i, V.ptr 1 (i.toNat * 1), iV (at' xs (i.toNat * 1)), V.raw (.bool !decide (at' xs (i.toNat * 1) = at' xs (i.toNat * 1)))]) (h1 := [some (.cells (ints xs) T1 .ro), some (.cells (ints xs) T2 .ro)]) (body_of cfx_mixed cfx_call zz (rnd := none) (fi := 0) (k := 0) (n := 40) (n0 := 2) (ans := [zT, Ans.olds [], Ans.val 0 (iV (at' xs (i.toNat * 1))), Ans.val 1 (iV (at' xs (i.toNat * 1))), zF]) (cons := [(decide (i < (q : Int)) = true), (0 ≤ i ∧ i < (q : Int)), (loadRow cfx 3 (ints xs) (i.toNat * 1) = some (iV (at' xs (i.toNat * 1)))), (0 ≤ i ∧ i < (q : Int)), (loadRow cfx 3 (ints xs) (i.toNat * 1) = some (iV (at' xs (i.toNat * 1)))), ((!decide (at' xs (i.toNat * 1) = at' xs (i.toNat * 1))) = false), (inR IntKind.i64 (i + 1))]) zk
    ⟨zdo, zo, (load_one zk zo), zo, (load_one zk zo), zdf, inR_i64 zo zo, trivial⟩ zb zb noRnd (noRanges zk)) zt11
def sam_T2 (xs : List Int) (q : Nat) (T1 T2 : Nat) (i : Int) : List V := (zq159 q i)
def sam_H2 (xs : List Int) (q : Nat) (T1 T2 : Nat) (i : Int) : Heap := [some (.cells (ints xs) T1 .ro), some (.cells (ints xs) T2 .ro)]
theorem sam_2 (xs : List Int) (q : Nat) (T1 T2 : Nat) (hl : xs.length = q) (hq : q ≤ 1000) (i : Int) (hi1 : 0 ≤ i) (f0 : ¬i < (q : Int)) : Runs cfx 0 2 none (loopOf cfx.P 34 0) (sam_T xs q T1 T2 i) (sam_H xs q T1 T2 i) (Ex.exit 0) (sam_T2 xs q T1 T2 i) (sam_H2 xs q T1 T2 i) := by
  refine Runs.post (t1 := (catV [.slo 0 q, .slo 1 q, uV, uV, V.raw (.bool false), iV i, .any 6, .any 7, .any 8, .any 9, .any 10, iV i, .slo 0 q, iV (q : Int), V.raw (.bool (decide (i < (q : Int))))] (anyR 15 11 []))) (h1 := [some (.cells (ints xs) T1 .ro), some (.cells (ints xs) T2 .ro)]) (body_of cfx_mixed cfx_call zz (rnd := none) (fi := 0) (k := 0) (n := 40) (n0 := 2) (ans := [zF]) (cons := [(decide (i < (q : Int)) = false)]) zk
    ⟨zdo, trivial⟩ zb zb noRnd (noRanges zk)) zt11
end Go.Proofs.Ytmelbcmfahcffaa
end
