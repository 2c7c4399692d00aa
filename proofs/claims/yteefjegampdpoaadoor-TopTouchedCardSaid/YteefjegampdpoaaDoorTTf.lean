/-
  For all lists of dots and momenta, and every rebound: roquettop.TopTouched returns true, and leaves its arguments as they were (the statement TopTouched, as a card tied to the program's text). No condition.
-/
import Derived.Test.YteefjegampdpoaaDoorTTe
set_option linter.unusedVariables false
set_option linter.unusedSimpArgs false
set_option maxRecDepth 100000
section
namespace Go.Proofs.YteefjegampdpoaaDoor
open Go Go.RowKit Go.Proofs.YteefjegampdpoaaDoor.E2
variable (nm : ByteArray) (gs cs : List Int) (n k : Nat) (T U : Nat) (w g y a b r p q : Int)
theorem chkDisc_fit {x y r : Int} (hr : 1 ≤ r ∧ r ≤ 65536) (hx : -4194304 ≤ x ∧ x ≤ 4194304) (hy : -4194304 ≤ y ∧ y ≤ 4194304) : chkDisc x y r = 0 := by
  unfold chkDisc
  rw [if_neg (by omega)]
  unfold M.chk M.okAll
  simp only [List.all_cons, List.all_nil, Bool.and_true, M.fits]
  rw [if_pos (by simp; omega)]
theorem M.fits_disc {w g : Int} {zs : List Int} {m : Nat} (hw : w ≤ 4194304) (hg : g ≤ 4194304) (h : M.fitsB w g zs m = true) (hrad : ∀ j : Nat, j < m → 1 ≤ at' zs (j * 3 + 2) ∧ at' zs (j * 3 + 2) ≤ 8192) : ∀ j : Nat, j < m → chkDisc (at' zs (j * 3)) (at' zs (j * 3 + 1)) (at' zs (j * 3 + 2)) = 0 := fun j hj => by
  have h1 := all_range h j hj
  simp only [M.fitZ, Bool.and_eq_true, M.btw_iff] at h1
  have h2 := hrad j hj
  exact chkDisc_fit zo zo zo
theorem pg_loop (nm : ByteArray) (gs cs zs : List Int) (n k m : Nat) (T U : Nat) (w g y a b r p q : Int) (hpo : (zq99 nm w g y n a b r p q k gs T cs U m zs)) (hr : M.btw r 1 8192 = true) (hz : zs.length = m * 3) (hm : m ≤ 100) (hw : -4194304 ≤ w ∧ w ≤ 4194304) (hg : -4194304 ≤ g ∧ g ≤ 4194304) (hd : ∀ j : Nat, j < m → chkDisc (at' zs (j * 3)) (at' zs (j * 3 + 1)) (at' zs (j * 3 + 2)) = 0) : (M.apartB zs m = true ∧ Runs cfx 0 4 none (.loop (loopOf cfx.P 62 1)) (pg_T nm gs cs zs n k m T U w g y a b r p q 0) (pg_H nm gs cs zs n k m T U w g y a b r p q 0) (.exit 2) (pgc_T1 nm gs cs zs n k m T U w g y a b r p q m) (pgc_H1 nm gs cs zs n k m T U w g y a b r p q m)) ∨ (M.apartB zs m = false ∧ ∃ i j : Nat, Runs cfx 0 4 none (.loop (loopOf cfx.P 62 1)) (pg_T nm gs cs zs n k m T U w g y a b r p q 0) (pg_H nm gs cs zs n k m T U w g y a b r p q 0) (.ret) (pgb_T1 nm gs cs zs n k m T U w g y a b r p q i j) (pgb_H1 nm gs cs zs n k m T U w g y a b r p q i j)) := by
  have hbad : ∀ i : Nat, i < m → (List.range i).all (M.apZ zs i) = false → ∃ j : Nat, Runs cfx 0 4 none (loopOf cfx.P 62 1) (pg_T nm gs cs zs n k m T U w g y a b r p q i) (pg_H nm gs cs zs n k m T U w g y a b r p q i) .ret (pgb_T1 nm gs cs zs n k m T U w g y a b r p q i j) (pgb_H1 nm gs cs zs n k m T U w g y a b r p q i j) := fun i hi hgd => by
    rcases ph_loop nm gs cs zs n k m T U w g y a b r p q hpo hr hz hm hw hg hd i hi with ⟨e1, _⟩ | ⟨_, j, e2⟩
    · rw [e1] at hgd; cases hgd
    · exact ⟨j, pgb_1 nm gs cs zs n k m T U w g y a b r p q hpo hr hz hm hw hg i zo zo j e2⟩
  rcases upto_find (c := cfx) (lim := 0) (n0 := 4) (x := loopOf cfx.P 62 1) noRnd (fun i => (List.range i).all (M.apZ zs i)) (fun i : Nat => pg_T nm gs cs zs n k m T U w g y a b r p q i) (fun i : Nat => pg_H nm gs cs zs n k m T U w g y a b r p q i) m (fun i : Nat => pgb_T1 nm gs cs zs n k m T U w g y a b r p q i (if h : i < m ∧ (List.range i).all (M.apZ zs i) = false then Classical.choose (hbad i h.1 h.2) else 0)) (fun i : Nat => pgb_H1 nm gs cs zs n k m T U w g y a b r p q i (if h : i < m ∧ (List.range i).all (M.apZ zs i) = false then Classical.choose (hbad i h.1 h.2) else 0)) (e := .exit 2) (e1 := .ret) (by simp) (by simp)
    (fun i hi hgd => by
      rcases ph_loop nm gs cs zs n k m T U w g y a b r p q hpo hr hz hm hw hg hd i hi with ⟨_, e2⟩ | ⟨e1, _⟩
      · exact pga_1 nm gs cs zs n k m T U w g y a b r p q hpo hr hz hm hw hg i zo zo e2
      · rw [e1] at hgd; cases hgd)
    (fun i hi hgd => by
      rw [dif_pos ⟨hi, hgd⟩]
      exact Classical.choose_spec (hbad i hi hgd))
    (pgc_1 nm gs cs zs n k m T U w g y a b r p q hpo hr hz hm hw hg m zo zo) with ⟨h1, h2⟩ | ⟨h1, i, hi, h2, h3, h4⟩
  · exact .inl ⟨h1, h2⟩
  · exact .inr ⟨h1, i, _, h4⟩
abbrev zq117 (nm : ByteArray) (w : Int) (g : Int) (y : Int) (n : Nat) (a : Int) (b : Int) (r : Int) (p : Int) (q : Int) (k : Nat) (m : Nat) : List V := (catV [lwA nm w g y n a b r p q k, .ptr 2 0, V.raw (.bool false), .slo 3 m] (anyR 4 13 (catV [.slo 3 m, iV (m : Int), iV (m : Int)] (anyR 20 50 []))))
abbrev zq119 (nm : ByteArray) (w : Int) (g : Int) (y : Int) (n : Nat) (a : Int) (b : Int) (r : Int) (p : Int) (q : Int) (k : Nat) (m : Nat) : List V := (catV [lwA nm w g y n a b r p q k, .ptr 2 0, V.raw (.bool false), .slo 3 m] (repU 6 (catV [.ptr 2 5, .ptr 2 7, iV r, V.raw (.bool (M.btw r 1 8192)), V.raw (.bool !M.btw r 1 8192), lwA nm w g y n a b r p q k, .slo 3 m, .slo 3 m, iV (m : Int), iV 0] (repU 50 []))))
abbrev zq22 (nm : ByteArray) (w : Int) (g : Int) (y : Int) (n : Nat) (a : Int) (b : Int) (r : Int) (p : Int) (q : Int) (k : Nat) (m : Nat) (gs : List Int) (T : Nat) (cs : List Int) (U : Nat) (zs : List Int) : Prop := Runs cfx 0 4 none (.loop (loopOf cfx.P 62 0)) (zq119 nm w g y n a b r p q k m) [bkG gs T, bkI cs U, bkW nm w g y n a b r p q k, some (.cells (ints zs) 26 (.row 3))] (Ex.exit 0) (zq117 nm w g y n a b r p q k m) [bkG gs T, bkI cs U, bkW nm w g y n a b r p q k, some (.cells (ints zs) 26 (.row 3))]
abbrev zq37 (nm : ByteArray) (w : Int) (g : Int) (y : Int) (n : Nat) (a : Int) (b : Int) (r : Int) (p : Int) (q : Int) (k : Nat) (m : Nat) : List V := (catV [lwA nm w g y n a b r p q k, .ptr 2 0, V.raw (.bool false), .slo 3 m] (anyR 4 13 (catV [.slo 3 m, iV (m : Int), iV (m : Int)] (anyR 20 30 (catV [.slo 3 m, iV (m : Int), iV 0] (anyR 53 17 []))))))
abbrev zq38 (nm : ByteArray) (w : Int) (g : Int) (y : Int) (n : Nat) (a : Int) (b : Int) (r : Int) (p : Int) (q : Int) (k : Nat) (m : Nat) : List V := (zq117 nm w g y n a b r p q k m)
abbrev zq39 (nm : ByteArray) (w : Int) (g : Int) (y : Int) (n : Nat) (a : Int) (b : Int) (r : Int) (p : Int) (q : Int) (k : Nat) (m : Nat) : List V := (catV [lwA nm w g y n a b r p q k, .ptr 2 0, V.raw (.bool false), .slo 3 m] (anyR 4 46 (catV [.slo 3 m, iV (m : Int), iV (m : Int)] (anyR 53 17 []))))
abbrev zq58 (nm : ByteArray) (w : Int) (g : Int) (y : Int) (n : Nat) (a : Int) (b : Int) (r : Int) (p : Int) (q : Int) (k : Nat) (m : Nat) : List V := (zq119 nm w g y n a b r p q k m)
abbrev zq75 (nm : ByteArray) (w : Int) (g : Int) (y : Int) (n : Nat) (a : Int) (b : Int) (r : Int) (p : Int) (q : Int) (k : Nat) (gs : List Int) (T : Nat) (cs : List Int) (U : Nat) (m : Nat) (zs : List Int) : Prop := Meets cfx 0 19 [lwA nm w g y n a b r p q k] [bkG gs T, bkI cs U, bkW nm w g y n a b r p q k] (.slo 3 m) [bkG gs T, bkI cs U, bkW nm w g y n a b r p q k, some (.cells (ints zs) 26 (.row 3))]
theorem postsFit_ok (nm : ByteArray) (gs cs zs : List Int) (n k m : Nat) (T U : Nat) (w g y a b r p q : Int) (hpo : (zq99 nm w g y n a b r p q k gs T cs U m zs)) (hr : M.btw r 1 8192 = true) (hz : zs.length = m * 3) (hm : m ≤ 100) (hw : -4194304 ≤ w ∧ w ≤ 4194304) (hg : -4194304 ≤ g ∧ g ≤ 4194304) (hR0 : Runs cfx 0 4 none (.loop (loopOf cfx.P 62 0)) (pf_T nm gs cs zs n k m T U w g y a b r p q 0) (pf_H nm gs cs zs n k m T U w g y a b r p q 0) (.exit 0) (pf_T4 nm gs cs zs n k m T U w g y a b r p q m) (pf_H4 nm gs cs zs n k m T U w g y a b r p q m)) (hR1 : Runs cfx 0 4 none (.loop (loopOf cfx.P 62 1)) (pg_T nm gs cs zs n k m T U w g y a b r p q 0) (pg_H nm gs cs zs n k m T U w g y a b r p q 0) (.exit 2) (pgc_T1 nm gs cs zs n k m T U w g y a b r p q m) (pgc_H1 nm gs cs zs n k m T U w g y a b r p q m))  : Meets cfx 0 62 [lwA nm w g y n a b r p q k] [bkG gs T, bkI cs U] (V.raw (.bool true)) [bkG gs T, bkI cs U] := by
  refine Meets.post (mev (ans := [Ans.go, Ans.ret (V.raw (.bool (M.btw r 1 8192))), zF, Ans.reth (.slo 3 m) (zq108 gs T cs U nm w g y n a b r p q k zs), Ans.loop (Ex.exit 0) (zq38 nm w g y n a b r p q k m) (zq108 gs T cs U nm w g y n a b r p q k zs), Ans.loop (Ex.exit 2) (zq39 nm w g y n a b r p q k m) (zq108 gs T cs U nm w g y n a b r p q k zs)]) (v := V.raw (.bool true)) (h' := (zq108 gs T cs U nm w g y n a b r p q k zs)) (cons := [(Ret cfx 32 [iV r, iV 1, iV 8192] (V.raw (.bool (M.btw r 1 8192)))), ((!M.btw r 1 8192) = false), ((zq75 nm w g y n a b r p q k gs T cs U m zs)), ((zq22 nm w g y n a b r p q k m gs T cs U zs)), (Runs cfx 0 4 none (.loop (loopOf cfx.P 62 1)) (zq37 nm w g y n a b r p q k m) (zq108 gs T cs U nm w g y n a b r p q k zs) (Ex.exit 2) (zq39 nm w g y n a b r p q k m) (zq108 gs T cs U nm w g y n a b r p q k zs))]) zk
    ⟨(lnBetween _ _ _), zdf, (by exact below2 (lim := 0) rfl rfl 0 1 (N := [some (.cells (ints zs) 26 (.row 3))]) hpo (mix_all _ _) (ints_all _) rfl (new_row _ _ _) rfl rfl zz), (by
      refine Runs.pre (fun b e => by cases e) (fun RT RH => ?_) (hR0)
      exact reshape2 (lim := 0) 4 (t := (zq58 nm w g y n a b r p q k m)) (h := (zq108 gs T cs U nm w g y n a b r p q k zs)) cfx_G rfl [] zk zk zdr RT RH), (by
      refine Runs.pre (fun b e => by cases e) (fun RT RH => ?_) (hR1)
      exact reshape2 (lim := 0) 4 (t := (zq37 nm w g y n a b r p q k m)) (h := (zq108 gs T cs U nm w g y n a b r p q k zs)) cfx_G rfl [] zk zk zdr RT RH), trivial⟩) zk zt0
abbrev zq40 (nm : ByteArray) (w : Int) (g : Int) (y : Int) (n : Nat) (a : Int) (b : Int) (r : Int) (p : Int) (q : Int) (k : Nat) (m : Nat) (i : Nat) : List V := (catV [lwA nm w g y n a b r p q k, .ptr 2 0, V.raw (.bool false), .slo 3 m] (anyR 4 13 (catV [.slo 3 m, iV (m : Int), iV (i : Int)] (anyR 20 50 []))))
theorem postsFit_bad1 (nm : ByteArray) (gs cs zs : List Int) (n k m : Nat) (T U : Nat) (w g y a b r p q : Int) (hpo : (zq99 nm w g y n a b r p q k gs T cs U m zs)) (hr : M.btw r 1 8192 = true) (hz : zs.length = m * 3) (hm : m ≤ 100) (hw : -4194304 ≤ w ∧ w ≤ 4194304) (hg : -4194304 ≤ g ∧ g ≤ 4194304) (i : Nat) (hR0 : Runs cfx 0 4 none (.loop (loopOf cfx.P 62 0)) (pf_T nm gs cs zs n k m T U w g y a b r p q 0) (pf_H nm gs cs zs n k m T U w g y a b r p q 0) (.ret) (pf_T1 nm gs cs zs n k m T U w g y a b r p q i) (pf_H1 nm gs cs zs n k m T U w g y a b r p q i))  : Meets cfx 0 62 [lwA nm w g y n a b r p q k] [bkG gs T, bkI cs U] (V.raw (.bool false)) [bkG gs T, bkI cs U] := by
  refine Meets.post (mev (ans := [Ans.go, Ans.ret (V.raw (.bool (M.btw r 1 8192))), zF, Ans.reth (.slo 3 m) (zq108 gs T cs U nm w g y n a b r p q k zs), Ans.loop Ex.ret (zq40 nm w g y n a b r p q k m i) (zq108 gs T cs U nm w g y n a b r p q k zs)]) (v := V.raw (.bool false)) (h' := (zq108 gs T cs U nm w g y n a b r p q k zs)) (cons := [(Ret cfx 32 [iV r, iV 1, iV 8192] (V.raw (.bool (M.btw r 1 8192)))), ((!M.btw r 1 8192) = false), ((zq75 nm w g y n a b r p q k gs T cs U m zs)), (Runs cfx 0 4 none (.loop (loopOf cfx.P 62 0)) (zq58 nm w g y n a b r p q k m) (zq108 gs T cs U nm w g y n a b r p q k zs) (Ex.ret) (zq40 nm w g y n a b r p q k m i) (zq108 gs T cs U nm w g y n a b r p q k zs))]) zk
    ⟨(lnBetween _ _ _), zdf, (by exact below2 (lim := 0) rfl rfl 0 1 (N := [some (.cells (ints zs) 26 (.row 3))]) hpo (mix_all _ _) (ints_all _) rfl (new_row _ _ _) rfl rfl zz), (by
      refine Runs.pre (fun b e => by cases e) (fun RT RH => ?_) (hR0)
      exact reshape2 (lim := 0) 4 (t := (zq58 nm w g y n a b r p q k m)) (h := (zq108 gs T cs U nm w g y n a b r p q k zs)) cfx_G rfl [] zk zk zdr RT RH), trivial⟩) zk zt0
abbrev zq41 (nm : ByteArray) (w : Int) (g : Int) (y : Int) (n : Nat) (a : Int) (b : Int) (r : Int) (p : Int) (q : Int) (k : Nat) (m : Nat) (i : Nat) : List V := (catV [lwA nm w g y n a b r p q k, .ptr 2 0, V.raw (.bool false), .slo 3 m] (anyR 4 46 (catV [.slo 3 m, iV (m : Int), iV (i : Int)] (anyR 53 17 []))))
theorem postsFit_bad2 (nm : ByteArray) (gs cs zs : List Int) (n k m : Nat) (T U : Nat) (w g y a b r p q : Int) (hpo : (zq99 nm w g y n a b r p q k gs T cs U m zs)) (hr : M.btw r 1 8192 = true) (hz : zs.length = m * 3) (hm : m ≤ 100) (hw : -4194304 ≤ w ∧ w ≤ 4194304) (hg : -4194304 ≤ g ∧ g ≤ 4194304) (i j : Nat) (hR0 : Runs cfx 0 4 none (.loop (loopOf cfx.P 62 0)) (pf_T nm gs cs zs n k m T U w g y a b r p q 0) (pf_H nm gs cs zs n k m T U w g y a b r p q 0) (.exit 0) (pf_T4 nm gs cs zs n k m T U w g y a b r p q m) (pf_H4 nm gs cs zs n k m T U w g y a b r p q m)) (hR1 : Runs cfx 0 4 none (.loop (loopOf cfx.P 62 1)) (pg_T nm gs cs zs n k m T U w g y a b r p q 0) (pg_H nm gs cs zs n k m T U w g y a b r p q 0) (.ret) (pgb_T1 nm gs cs zs n k m T U w g y a b r p q i j) (pgb_H1 nm gs cs zs n k m T U w g y a b r p q i j))  : Meets cfx 0 62 [lwA nm w g y n a b r p q k] [bkG gs T, bkI cs U] (V.raw (.bool false)) [bkG gs T, bkI cs U] := by
  refine Meets.post (mev (ans := [Ans.go, Ans.ret (V.raw (.bool (M.btw r 1 8192))), zF, Ans.reth (.slo 3 m) (zq108 gs T cs U nm w g y n a b r p q k zs), Ans.loop (Ex.exit 0) (zq38 nm w g y n a b r p q k m) (zq108 gs T cs U nm w g y n a b r p q k zs), Ans.loop Ex.ret (zq41 nm w g y n a b r p q k m i) (zq108 gs T cs U nm w g y n a b r p q k zs)]) (v := V.raw (.bool false)) (h' := (zq108 gs T cs U nm w g y n a b r p q k zs)) (cons := [(Ret cfx 32 [iV r, iV 1, iV 8192] (V.raw (.bool (M.btw r 1 8192)))), ((!M.btw r 1 8192) = false), ((zq75 nm w g y n a b r p q k gs T cs U m zs)), ((zq22 nm w g y n a b r p q k m gs T cs U zs)), (Runs cfx 0 4 none (.loop (loopOf cfx.P 62 1)) (zq37 nm w g y n a b r p q k m) (zq108 gs T cs U nm w g y n a b r p q k zs) (Ex.ret) (zq41 nm w g y n a b r p q k m i) (zq108 gs T cs U nm w g y n a b r p q k zs))]) zk
    ⟨(lnBetween _ _ _), zdf, (by exact below2 (lim := 0) rfl rfl 0 1 (N := [some (.cells (ints zs) 26 (.row 3))]) hpo (mix_all _ _) (ints_all _) rfl (new_row _ _ _) rfl rfl zz), (by
      refine Runs.pre (fun b e => by cases e) (fun RT RH => ?_) (hR0)
      exact reshape2 (lim := 0) 4 (t := (zq58 nm w g y n a b r p q k m)) (h := (zq108 gs T cs U nm w g y n a b r p q k zs)) cfx_G rfl [] zk zk zdr RT RH), (by
      refine Runs.pre (fun b e => by cases e) (fun RT RH => ?_) (hR1)
      exact reshape2 (lim := 0) 4 (t := (zq37 nm w g y n a b r p q k m)) (h := (zq108 gs T cs U nm w g y n a b r p q k zs)) cfx_G rfl [] zk zk zdr RT RH), trivial⟩) zk zt0
theorem postsFit_peg (hr : M.btw r 1 8192 = false)  : Meets cfx 0 62 [lwA nm w g y n a b r p q k] [bkG gs T, bkI cs U] (V.raw (.bool false)) [bkG gs T, bkI cs U] := by
  refine Meets.post (mev (ans := [Ans.go, Ans.ret (V.raw (.bool (M.btw r 1 8192))), zT]) (v := V.raw (.bool false)) (h' := [bkG gs T, bkI cs U, bkW nm w g y n a b r p q k]) (cons := [(Ret cfx 32 [iV r, iV 1, iV 8192] (V.raw (.bool (M.btw r 1 8192)))), ((!M.btw r 1 8192) = true)]) zk
    ⟨(lnBetween _ _ _), zdf, trivial⟩) zk zt0
theorem postsFit_all (nm : ByteArray) (gs cs zs : List Int) (n k m : Nat) (T U : Nat) (w g y a b r p q : Int) (hpo : (zq99 nm w g y n a b r p q k gs T cs U m zs)) (hr : M.btw r 1 8192 = true) (hz : zs.length = m * 3) (hm : m ≤ 100) (hw : -4194304 ≤ w ∧ w ≤ 4194304) (hg : -4194304 ≤ g ∧ g ≤ 4194304) (hrad : ∀ j : Nat, j < m → 1 ≤ at' zs (j * 3 + 2) ∧ at' zs (j * 3 + 2) ≤ 8192) (hw2 : w ≤ 4194304) (hg2 : g ≤ 4194304) : Meets cfx 0 62 [lwA nm w g y n a b r p q k] [bkG gs T, bkI cs U] (.raw (.bool (M.fitsB w g zs m && M.apartB zs m))) [bkG gs T, bkI cs U] := by
  rcases pf_loop nm gs cs zs n k m T U w g y a b r p q hpo hr hz hm hw hg (fun i hi => by have := hrad i hi; omega) with ⟨e1, e2⟩ | ⟨e1, i, e2⟩
  · rw [e1, Bool.true_and]
    rcases pg_loop nm gs cs zs n k m T U w g y a b r p q hpo hr hz hm hw hg (M.fits_disc hw2 hg2 e1 hrad) with ⟨e3, e4⟩ | ⟨e3, i, j, e4⟩
    · rw [e3]; exact postsFit_ok nm gs cs zs n k m T U w g y a b r p q hpo hr hz hm hw hg e2 e4
    · rw [e3]; exact postsFit_bad2 nm gs cs zs n k m T U w g y a b r p q hpo hr hz hm hw hg i j e2 e4
  · rw [e1, Bool.false_and]
    exact postsFit_bad1 nm gs cs zs n k m T U w g y a b r p q hpo hr hz hm hw hg i e2
def M.sidesB (w g y : Int) : Bool := M.btw w 65536 4194304 && M.btw g 65536 4194304 && M.btw y 0 ((min w g).tdiv 4)
theorem sides0 (h1 : M.btw w 65536 4194304 = false)  : Meets cfx 0 59 [lwA nm w g y n a b r p q k] [bkG gs T, bkI cs U] (V.raw (.bool false)) [bkG gs T, bkI cs U] := by
  refine Meets.post (mev (ans := [Ans.go, Ans.ret (V.raw (.bool (M.btw w 65536 4194304))), zF, zF, zF, zF]) (v := V.raw (.bool false)) (h' := [bkG gs T, bkI cs U, bkW nm w g y n a b r p q k]) (cons := [(Ret cfx 32 [iV w, iV 65536, iV 4194304] (V.raw (.bool (M.btw w 65536 4194304)))), (M.btw w 65536 4194304 = false), zN, zN, zN]) zk
    ⟨(lnBetween _ _ _), zdf, rfl, rfl, rfl, trivial⟩) zk zt0
theorem sides1 (h1 : M.btw w 65536 4194304 = true) (h2 : M.btw g 65536 4194304 = false)  : Meets cfx 0 59 [lwA nm w g y n a b r p q k] [bkG gs T, bkI cs U] (V.raw (.bool false)) [bkG gs T, bkI cs U] := by
  refine Meets.post (mev (ans := [Ans.go, Ans.ret (V.raw (.bool (M.btw w 65536 4194304))), zT, Ans.ret (V.raw (.bool (M.btw g 65536 4194304))), zT, zF, zF]) (v := V.raw (.bool false)) (h' := [bkG gs T, bkI cs U, bkW nm w g y n a b r p q k]) (cons := [(Ret cfx 32 [iV w, iV 65536, iV 4194304] (V.raw (.bool (M.btw w 65536 4194304)))), (M.btw w 65536 4194304 = true), (Ret cfx 32 [iV g, iV 65536, iV 4194304] (V.raw (.bool (M.btw g 65536 4194304)))), zY, (M.btw g 65536 4194304 = false), zN]) zk
    ⟨(lnBetween _ _ _), zdf, (lnBetween _ _ _), rfl, zdf, rfl, trivial⟩) zk zt0
theorem sides2_1 (h1 : M.btw w 65536 4194304 = true) (h2 : M.btw g 65536 4194304 = true) (h3 : ¬ g < w) (hw : 65536 ≤ w ∧ w ≤ 4194304) (hg : 65536 ≤ g ∧ g ≤ 4194304) (h4 : -9000000 ≤ (if g < w then g else w).tdiv 4 ∧ (if g < w then g else w).tdiv 4 ≤ 9000000)  : Meets cfx 0 59 [lwA nm w g y n a b r p q k] [bkG gs T, bkI cs U] (V.raw (.bool (M.btw y 0 ((if g < w then g else w).tdiv 4)))) [bkG gs T, bkI cs U] := by
  refine Meets.post (mev (ans := [Ans.go, Ans.ret (V.raw (.bool (M.btw w 65536 4194304))), zT, Ans.ret (V.raw (.bool (M.btw g 65536 4194304))), zT, zT, Ans.ret (V.raw (.bool (M.btw y 0 ((if g < w then g else w).tdiv 4)))), zT]) (v := V.raw (.bool (M.btw y 0 ((if g < w then g else w).tdiv 4)))) (h' := [bkG gs T, bkI cs U, bkW nm w g y n a b r p q k]) (cons := [(Ret cfx 32 [iV w, iV 65536, iV 4194304] (V.raw (.bool (M.btw w 65536 4194304)))), (M.btw w 65536 4194304 = true), (Ret cfx 32 [iV g, iV 65536, iV 4194304] (V.raw (.bool (M.btw g 65536 4194304)))), zY, (M.btw g 65536 4194304 = true), ((4 : Int) ≠ (0 : Int)), (inR IntKind.i64 ((if g < w then g else w).tdiv 4)), (Ret cfx 32 [iV y, iV 0, iV ((if g < w then g else w).tdiv 4)] (V.raw (.bool (M.btw y 0 ((if g < w then g else w).tdiv 4))))), zY]) zk
    ⟨(lnBetween _ _ _), zdf, (lnBetween _ _ _), rfl, zdf, zds, inR_i64 zo zo, (lnBetween _ _ _), rfl, trivial⟩) zk zt0
theorem sides2 (h1 : M.btw w 65536 4194304 = true) (h2 : M.btw g 65536 4194304 = true) (h3 : ¬ g < w) (hw : 65536 ≤ w ∧ w ≤ 4194304) (hg : 65536 ≤ g ∧ g ≤ 4194304) (h4 : -9000000 ≤ (if g < w then g else w).tdiv 4 ∧ (if g < w then g else w).tdiv 4 ≤ 9000000) : Meets cfx 0 59 [lwA nm w g y n a b r p q k] [bkG gs T, bkI cs U] (.raw (.bool (M.btw y 0 (w.tdiv 4)))) [bkG gs T, bkI cs U] := by
  have e : (.raw (.bool (M.btw y 0 (w.tdiv 4))) : V) = V.raw (.bool (M.btw y 0 ((if g < w then g else w).tdiv 4))) := by (simp [h3])
  rw [e]
  exact sides2_1 nm gs cs n k T U w g y a b r p q h1 h2 h3 hw hg h4
theorem sides3_1 (h1 : M.btw w 65536 4194304 = true) (h2 : M.btw g 65536 4194304 = true) (h3 : g < w) (hw : 65536 ≤ w ∧ w ≤ 4194304) (hg : 65536 ≤ g ∧ g ≤ 4194304) (h4 : -9000000 ≤ (if g < w then g else w).tdiv 4 ∧ (if g < w then g else w).tdiv 4 ≤ 9000000)  : Meets cfx 0 59 [lwA nm w g y n a b r p q k] [bkG gs T, bkI cs U] (V.raw (.bool (M.btw y 0 ((if g < w then g else w).tdiv 4)))) [bkG gs T, bkI cs U] := by
  refine Meets.post (mev (ans := [Ans.go, Ans.ret (V.raw (.bool (M.btw w 65536 4194304))), zT, Ans.ret (V.raw (.bool (M.btw g 65536 4194304))), zT, zT, Ans.ret (V.raw (.bool (M.btw y 0 ((if g < w then g else w).tdiv 4)))), zT]) (v := V.raw (.bool (M.btw y 0 ((if g < w then g else w).tdiv 4)))) (h' := [bkG gs T, bkI cs U, bkW nm w g y n a b r p q k]) (cons := [(Ret cfx 32 [iV w, iV 65536, iV 4194304] (V.raw (.bool (M.btw w 65536 4194304)))), (M.btw w 65536 4194304 = true), (Ret cfx 32 [iV g, iV 65536, iV 4194304] (V.raw (.bool (M.btw g 65536 4194304)))), zY, (M.btw g 65536 4194304 = true), ((4 : Int) ≠ (0 : Int)), (inR IntKind.i64 ((if g < w then g else w).tdiv 4)), (Ret cfx 32 [iV y, iV 0, iV ((if g < w then g else w).tdiv 4)] (V.raw (.bool (M.btw y 0 ((if g < w then g else w).tdiv 4))))), zY]) zk
    ⟨(lnBetween _ _ _), zdf, (lnBetween _ _ _), rfl, zdf, zds, inR_i64 zo zo, (lnBetween _ _ _), rfl, trivial⟩) zk zt0
theorem sides3 (h1 : M.btw w 65536 4194304 = true) (h2 : M.btw g 65536 4194304 = true) (h3 : g < w) (hw : 65536 ≤ w ∧ w ≤ 4194304) (hg : 65536 ≤ g ∧ g ≤ 4194304) (h4 : -9000000 ≤ (if g < w then g else w).tdiv 4 ∧ (if g < w then g else w).tdiv 4 ≤ 9000000) : Meets cfx 0 59 [lwA nm w g y n a b r p q k] [bkG gs T, bkI cs U] (.raw (.bool (M.btw y 0 (g.tdiv 4)))) [bkG gs T, bkI cs U] := by
  have e : (.raw (.bool (M.btw y 0 (g.tdiv 4))) : V) = V.raw (.bool (M.btw y 0 ((if g < w then g else w).tdiv 4))) := by (simp [h3])
  rw [e]
  exact sides3_1 nm gs cs n k T U w g y a b r p q h1 h2 h3 hw hg h4
theorem lnSides : Meets cfx 0 59 [lwA nm w g y n a b r p q k] [bkG gs T, bkI cs U] (.raw (.bool (M.sidesB w g y))) [bkG gs T, bkI cs U] := by
  unfold M.sidesB
  cases h1 : M.btw w 65536 4194304 with
  | false => exact sides0 nm gs cs n k T U w g y a b r p q h1
  | true =>
  cases h2 : M.btw g 65536 4194304 with
  | false => exact sides1 nm gs cs n k T U w g y a b r p q h1 h2
  | true =>
  have hw := (M.btw_iff ..).1 h1
  have hg := (M.btw_iff ..).1 h2
  by_cases h3 : g < w
  · rw [show min w g = g by omega]
    exact sides3 nm gs cs n k T U w g y a b r p q h1 h2 h3 hw hg (by rw [if_pos h3, Int.tdiv_eq_ediv_of_nonneg (by omega)]; omega)
  · rw [show min w g = w by omega]
    exact sides2 nm gs cs n k T U w g y a b r p q h1 h2 h3 hw hg (by rw [if_neg h3, Int.tdiv_eq_ediv_of_nonneg (by omega)]; omega)
end Go.Proofs.YteefjegampdpoaaDoor
end
section
namespace Go.Proofs.YteefjegampdpoaaDoor
open Go.ChangeShapes Go.WideShapes Go.ChangeAt Go.RowKit
def M.nameC (n : Nat) : Prop := (97 ≤ n ∧ n ≤ 122) ∨ (48 ≤ n ∧ n ≤ 57)
def M.nameP (s : ByteArray) : Prop := 1 ≤ s.size ∧ s.size ≤ 20 ∧ ∀ k (h : k < s.size), M.nameC s[k].toNat
theorem M.name_step {s : ByteArray} {k : Nat} (hlt : k < s.size) (h : ∀ j (h : j < s.size), j < k → M.nameC s[j].toNat) (hc : M.nameC s[k].toNat) : ∀ j (h : j < s.size), j < k + 1 → M.nameC s[j].toNat := fun j hj hk => by
  rcases Nat.lt_or_ge j k with q | q
  · exact h j hj q
  · obtain rfl : j = k := by omega
    exact hc
end Go.Proofs.YteefjegampdpoaaDoor
end
section
namespace Go.Proofs.YteefjegampdpoaaDoor
open Go.ChangeShapes Go.WideShapes Go.ChangeAt Go.RowKit
set_option maxHeartbeats 4000000 in
theorem isName_any (s : ByteArray) (b : Bool) (w : World) (hs : s.size ≤ 100) (hb : b = true ↔ M.nameP s) :
    Calls Tryd.prog 58 #[.string s] w fun e w' => e = .returned (.bool b) ∧ Below w.heap.size w w' := by
  have HB := Lib.hid hb
  by_cases h1 : 1 ≤ s.size
  · by_cases h2 : s.size ≤ 20
    · have i1 : ¬ (s.size : Int) < 1 := by omega
      have i2 : ¬ 20 < (s.size : Int) := by omega
      go_enter Tryd.func58, Tryd.ntmps58
      go_wp2
      simp only [run_bytes_of_string w 9 98 5 s Tryd.underlying9 Tryd.underlying98 Tryd.underlying5]
      have hrow : ∀ j (h : j < s.size), (w.drew.alloc (.cells (bytesRow s (grownCap w s.size 0 5)) 5 ((bytesRow s (grownCap w s.size 0 5)).size, (bytesRow s (grownCap w s.size 0 5)).size + 1))).cell? ⟨w.heap.size, j, none⟩ = some (.int .u8 (s[j].toNat : Int)) := fun j h =>
        (World.cell?_alloc_mark w.drew _ _ _ j).trans (bytesRow_at s _ j h)
      have hB1 : Below w.heap.size w (w.drew.alloc (.cells (bytesRow s (grownCap w s.size 0 5)) 5 ((bytesRow s (grownCap w s.size 0 5)).size, (bytesRow s (grownCap w s.size 0 5)).size + 1))) := by go_grown
      have hz1 : (w.drew.alloc (.cells (bytesRow s (grownCap w s.size 0 5)) 5 ((bytesRow s (grownCap w s.size 0 5)).size, (bytesRow s (grownCap w s.size 0 5)).size + 1))).heap.size = w.heap.size + 1 := by simp
      generalize w.drew.alloc (.cells (bytesRow s (grownCap w s.size 0 5)) 5 ((bytesRow s (grownCap w s.size 0 5)).size, (bytesRow s (grownCap w s.size 0 5)).size + 1)) = W1 at *
      generalize grownCap w s.size 0 5 = cap at *
      have HR := Lib.hid hrow
      have HB1 := Lib.hid hB1
      clear hrow hB1
      go_wp2
      go_loopw [16] (fun i wr => ∃ k : Nat, k ≤ s.size ∧ i = .int .i64 k ∧ Below W1.heap.size W1 wr ∧ Below w.heap.size w wr ∧ ∀ j (h : j < s.size), j < k → M.nameC s[j].toNat) (fun i _ => s.size - (intOf i).toNat)
      case atStart => exact ⟨0, by omega, rfl, Below.refl _ _, HB1.out, fun j _ h => absurd h (by omega)⟩
      case round =>
        obtain ⟨k, hk, rfl, hBk, hBr, hpre⟩ := hrel
        have HBK := Lib.hid hBk
        have HP := Lib.hid hpre
        clear hpre
        by_cases hlt : k < s.size
        · have hlt1 : (k : Int) < s.size := by omega
          have HX := Lib.hid (fun h : M.nameC s[k].toNat => M.name_step hlt HP.out h)
          have HY := Lib.hid (fun h : M.nameP s => h.2.2 k hlt)
          have hcell := (hBk.cell (p := ⟨w.heap.size, k, none⟩) (by simp only []; omega)).trans (HR.out k hlt)
          clear hBk
          rcases (by omega : (97 ≤ s[k].toNat ∧ s[k].toNat ≤ 122) ∨ 122 < s[k].toNat ∨ (s[k].toNat < 97 ∧ 48 ≤ s[k].toNat ∧ s[k].toNat ≤ 57) ∨ s[k].toNat < 48 ∨ (57 < s[k].toNat ∧ s[k].toNat < 97)) with ⟨c1, c2⟩ | c1 | ⟨c1, c2, c3⟩ | c1 | ⟨c1, c2⟩
          · have d1 : ¬ (s[k].toNat : Int) < 97 := by omega
            have d2 : ¬ 122 < (s[k].toNat : Int) := by omega
            have HC := Lib.hid (HX.out (.inl ⟨c1, c2⟩))
            clear c1 c2
            go_wp2
            exact ⟨⟨k + 1, by omega, by go_num, HBK.out, hBr, HC.out⟩, by simp [intOf]; omega⟩
          · have d1 : ¬ (s[k].toNat : Int) < 97 := by omega
            have d2 : 122 < (s[k].toNat : Int) := by omega
            have d3 : ¬ (s[k].toNat : Int) < 48 := by omega
            have d4 : 57 < (s[k].toNat : Int) := by omega
            have hF := Lib.hid (show b = false by cases b with | false => rfl | true => exact absurd (HY.out (HB.out.1 rfl)) (by unfold M.nameC; omega))
            clear c1
            go_wp2
            go_returns
            exact ⟨by rw [hF.out]; rfl, hBr⟩
          · have d1 : (s[k].toNat : Int) < 97 := by omega
            have d3 : ¬ (s[k].toNat : Int) < 48 := by omega
            have d4 : ¬ 57 < (s[k].toNat : Int) := by omega
            have HC := Lib.hid (HX.out (.inr ⟨c2, c3⟩))
            clear c1 c2 c3
            go_wp2
            exact ⟨⟨k + 1, by omega, by go_num, HBK.out, hBr, HC.out⟩, by simp [intOf]; omega⟩
          · have d1 : (s[k].toNat : Int) < 97 := by omega
            have d3 : (s[k].toNat : Int) < 48 := by omega
            have hF := Lib.hid (show b = false by cases b with | false => rfl | true => exact absurd (HY.out (HB.out.1 rfl)) (by unfold M.nameC; omega))
            clear c1
            go_wp2
            go_returns
            exact ⟨by rw [hF.out]; rfl, hBr⟩
          · have d1 : (s[k].toNat : Int) < 97 := by omega
            have d3 : ¬ (s[k].toNat : Int) < 48 := by omega
            have d4 : 57 < (s[k].toNat : Int) := by omega
            have hF := Lib.hid (show b = false by cases b with | false => rfl | true => exact absurd (HY.out (HB.out.1 rfl)) (by unfold M.nameC; omega))
            clear c1 c2
            go_wp2
            go_returns
            exact ⟨by rw [hF.out]; rfl, hBr⟩
        · have hlt1 : ¬ (k : Int) < s.size := by omega
          have hT := Lib.hid (show b = true from HB.out.2 ⟨h1, h2, fun j hj => HP.out j hj (by omega)⟩)
          clear hlt
          go_wp2
          go_returns
          exact ⟨by rw [hT.out]; rfl, hBr⟩
    · have i2 : 20 < (s.size : Int) := by omega
      have i1 : ¬ (s.size : Int) < 1 := by omega
      have hF := Lib.hid (show b = false by cases b with | false => rfl | true => exact absurd (hb.1 rfl).2.1 h2)
      clear h2 hb
      go_enter Tryd.func58, Tryd.ntmps58
      go_wp2
      go_returns
      exact ⟨by rw [hF.out]; rfl, by go_grown⟩
  · have i1 : (s.size : Int) < 1 := by omega
    have hF := Lib.hid (show b = false by cases b with | false => rfl | true => exact absurd (hb.1 rfl).1 h1)
    clear h1 hb
    go_enter Tryd.func58, Tryd.ntmps58
    go_wp2
    go_returns
    exact ⟨by rw [hF.out]; rfl, by go_grown⟩
end Go.Proofs.YteefjegampdpoaaDoor
end
section
namespace Go.Proofs.YteefjegampdpoaaDoor
open Go Go.RowKit Go.Proofs.YteefjegampdpoaaDoor.E2
def M.charB (n : Nat) : Bool := (decide (97 ≤ n) && decide (n ≤ 122)) || (decide (48 ≤ n) && decide (n ≤ 57))
def M.nameB (s : ByteArray) : Bool := decide (1 ≤ s.size) && decide (s.size ≤ 20) && (List.range s.size).all fun k => if h : k < s.size then M.charB s[k].toNat else true
theorem M.nameB_iff (s : ByteArray) : M.nameB s = true ↔ M.nameP s := by
  unfold M.nameB M.nameP
  simp only [Bool.and_eq_true, decide_eq_true_eq, List.all_eq_true, List.mem_range, and_assoc]
  refine and_congr_right fun _ => and_congr_right fun _ => ⟨fun h k hk => ?_, fun h k hk => ?_⟩
  · have := h k hk
    rw [dif_pos hk] at this
    simpa [M.charB, M.nameC] using this
  · rw [dif_pos hk]
    simpa [M.charB, M.nameC] using h k hk
theorem lnIsName (s : ByteArray) (hs : s.size ≤ 100) : Ret cfx 58 [.raw (.string s)] (.raw (.bool (M.nameB s))) :=
  fn_of_calls (args := [.string s]) fun w => isName_any s _ w hs (M.nameB_iff s)
variable (nm : ByteArray) (gs cs : List Int) (n k : Nat) (T U : Nat) (w g y a b r p q : Int)
theorem check_many0 (h1 : n = 0)  : Meets cfx 0 18 [lwA nm w g y n a b r p q k] [bkG gs T, bkI cs U] (iV 6) [bkG gs T, bkI cs U] := by
  refine Meets.post (mev (ans := [Ans.go, zT, zT, zT, zT, zT]) (v := (iV 6)) (h' := [bkG gs T, bkI cs U, bkW nm w g y n a b r p q k]) (cons := [(decide ((n : Int) < 1) = true), zY, zY, zY, zY]) zk
    ⟨zdo, rfl, rfl, rfl, rfl, trivial⟩) zk zt0
theorem check_many1 (h1 : 1 ≤ n) (h2 : 12 < n) (hb : n ≤ 1000000000)  : Meets cfx 0 18 [lwA nm w g y n a b r p q k] [bkG gs T, bkI cs U] (iV 6) [bkG gs T, bkI cs U] := by
  refine Meets.post (mev (ans := [Ans.go, zF, zF, zT, zT, zT]) (v := (iV 6)) (h' := [bkG gs T, bkI cs U, bkW nm w g y n a b r p q k]) (cons := [(decide ((n : Int) < 1) = false), zN, (decide (12 < (n : Int)) = true), zY, zY]) zk
    ⟨zdo, rfl, zdo, rfl, rfl, trivial⟩) zk zt0
theorem check_many2 (h1 : 1 ≤ n) (h2 : n ≤ 12) (h3 : 256 < k) (hb : k ≤ 1000000000)  : Meets cfx 0 18 [lwA nm w g y n a b r p q k] [bkG gs T, bkI cs U] (iV 6) [bkG gs T, bkI cs U] := by
  refine Meets.post (mev (ans := [Ans.go, zF, zF, zF, zF, zT]) (v := (iV 6)) (h' := [bkG gs T, bkI cs U, bkW nm w g y n a b r p q k]) (cons := [(decide ((n : Int) < 1) = false), zN, (decide (12 < (n : Int)) = false), zN, (decide (256 < (k : Int)) = true)]) zk
    ⟨zdo, rfl, zdo, rfl, zdo, trivial⟩) zk zt0
theorem check_name (hz : n * 5 ≤ gs.length) (hzc : k * 3 ≤ cs.length) (hn : 1 ≤ n ∧ n ≤ 12) (hk : k ≤ 256) (hnm : nm.size ≤ 100) (h1 : M.nameB nm = false)  : Meets cfx 0 18 [lwA nm w g y n a b r p q k] [bkG gs T, bkI cs U] (iV 2) [bkG gs T, bkI cs U] := by
  refine Meets.post (mev (ans := [Ans.go, zF, zF, zF, zF, zF, Ans.ret (V.raw (.bool (M.nameB nm))), zT, zT, zT, zT, zT, zT, zT, zT, zT]) (v := (iV 2)) (h' := [bkG gs T, bkI cs U, bkW nm w g y n a b r p q k]) (cons := [(decide ((n : Int) < 1) = false), zN, (decide (12 < (n : Int)) = false), zN, (decide (256 < (k : Int)) = false), (Ret cfx 58 [V.raw (Value.string nm)] (V.raw (.bool (M.nameB nm)))), ((!M.nameB nm) = true), zY, zY, zY, zY, zY, zY, zY, zY]) zk
    ⟨zdo, rfl, zdo, rfl, zdo, (lnIsName _ hnm), zdf, rfl, rfl, rfl, rfl, rfl, rfl, rfl, rfl, trivial⟩) zk zt0
abbrev zq80 (nm : ByteArray) (w : Int) (g : Int) (y : Int) (n : Nat) (a : Int) (b : Int) (r : Int) (p : Int) (q : Int) (k : Nat) (gs : List Int) (T : Nat) (cs : List Int) (U : Nat) : Prop := Meets cfx 0 59 [lwA nm w g y n a b r p q k] [bkG gs T, bkI cs U, bkW nm w g y n a b r p q k] (V.raw (.bool (M.sidesB w g y))) [bkG gs T, bkI cs U, bkW nm w g y n a b r p q k]
theorem check_side (hz : n * 5 ≤ gs.length) (hzc : k * 3 ≤ cs.length) (hn : 1 ≤ n ∧ n ≤ 12) (hk : k ≤ 256) (hnm : nm.size ≤ 100) (h1 : M.nameB nm = true) (h2 : M.sidesB w g y = false)  : Meets cfx 0 18 [lwA nm w g y n a b r p q k] [bkG gs T, bkI cs U] (iV 2) [bkG gs T, bkI cs U] := by
  refine Meets.post (mev (ans := [Ans.go, zF, zF, zF, zF, zF, Ans.ret (V.raw (.bool (M.nameB nm))), zF, Ans.reth (V.raw (.bool (M.sidesB w g y))) [bkG gs T, bkI cs U, bkW nm w g y n a b r p q k], zF, zT, zT, zT, zT, zT, zT, zT]) (v := (iV 2)) (h' := [bkG gs T, bkI cs U, bkW nm w g y n a b r p q k]) (cons := [(decide ((n : Int) < 1) = false), zN, (decide (12 < (n : Int)) = false), zN, (decide (256 < (k : Int)) = false), (Ret cfx 58 [V.raw (Value.string nm)] (V.raw (.bool (M.nameB nm)))), ((!M.nameB nm) = false), ((zq80 nm w g y n a b r p q k gs T cs U)), zN, ((!M.sidesB w g y) = true), zY, zY, zY, zY, zY, zY]) zk
    ⟨zdo, rfl, zdo, rfl, zdo, (lnIsName _ hnm), zdf, (by exact below2 (lim := 0) rfl rfl 0 1 (N := []) (lnSides nm gs cs n k T U w g y a b r p q) (mix_all _ _) (ints_all _) rfl zn rfl rfl zz), rfl, zdf, rfl, rfl, rfl, rfl, rfl, rfl, trivial⟩) zk zt0
abbrev zq88 (n : Nat) (gs : List Int) (T : Nat) (cs : List Int) (U : Nat) (nm : ByteArray) (w : Int) (g : Int) (y : Int) (a : Int) (b : Int) (r : Int) (p : Int) (q : Int) (k : Nat) : Prop := Meets cfx 0 60 [.slo 0 n] [bkG gs T, bkI cs U, bkW nm w g y n a b r p q k] (V.raw (.bool (M.hoopsB gs n))) [bkG gs T, bkI cs U, bkW nm w g y n a b r p q k]
theorem check_hoop (hz : n * 5 ≤ gs.length) (hzc : k * 3 ≤ cs.length) (hn : 1 ≤ n ∧ n ≤ 12) (hk : k ≤ 256) (hnm : nm.size ≤ 100) (h1 : M.nameB nm = true) (h2 : M.sidesB w g y = true) (h3 : M.hoopsB gs n = false)  : Meets cfx 0 18 [lwA nm w g y n a b r p q k] [bkG gs T, bkI cs U] (iV 2) [bkG gs T, bkI cs U] := by
  refine Meets.post (mev (ans := [Ans.go, zF, zF, zF, zF, zF, Ans.ret (V.raw (.bool (M.nameB nm))), zF, Ans.reth (V.raw (.bool (M.sidesB w g y))) [bkG gs T, bkI cs U, bkW nm w g y n a b r p q k], zF, zF, Ans.reth (V.raw (.bool (M.hoopsB gs n))) [bkG gs T, bkI cs U, bkW nm w g y n a b r p q k], zF, zT, zT, zT, zT, zT]) (v := (iV 2)) (h' := [bkG gs T, bkI cs U, bkW nm w g y n a b r p q k]) (cons := [(decide ((n : Int) < 1) = false), zN, (decide (12 < (n : Int)) = false), zN, (decide (256 < (k : Int)) = false), (Ret cfx 58 [V.raw (Value.string nm)] (V.raw (.bool (M.nameB nm)))), ((!M.nameB nm) = false), ((zq80 nm w g y n a b r p q k gs T cs U)), zN, ((!M.sidesB w g y) = false), ((zq88 n gs T cs U nm w g y a b r p q k)), zN, ((!M.hoopsB gs n) = true), zY, zY, zY, zY]) zk
    ⟨zdo, rfl, zdo, rfl, zdo, (lnIsName _ hnm), zdf, (by exact below2 (lim := 0) rfl rfl 0 1 (N := []) (lnSides nm gs cs n k T U w g y a b r p q) (mix_all _ _) (ints_all _) rfl zn rfl rfl zz), rfl, zdf, (by exact below1 (lim := 0) rfl rfl 0 (N := []) (hoopsFit_all gs n T hz zo) (mix_all _ _) rfl zn rfl zz), rfl, zdf, rfl, rfl, rfl, rfl, trivial⟩) zk zt0
abbrev zq78 (nm : ByteArray) (w : Int) (g : Int) (y : Int) (n : Nat) (a : Int) (b : Int) (r : Int) (p : Int) (q : Int) (k : Nat) (gs : List Int) (T : Nat) (cs : List Int) (U : Nat) : Prop := Meets cfx 0 61 [lwA nm w g y n a b r p q k] [bkG gs T, bkI cs U, bkW nm w g y n a b r p q k] (V.raw (.bool (M.gridB cs k p q))) [bkG gs T, bkI cs U, bkW nm w g y n a b r p q k]
theorem check_grid (hz : n * 5 ≤ gs.length) (hzc : k * 3 ≤ cs.length) (hn : 1 ≤ n ∧ n ≤ 12) (hk : k ≤ 256) (hnm : nm.size ≤ 100) (h1 : M.nameB nm = true) (h2 : M.sidesB w g y = true) (h3 : M.hoopsB gs n = true) (h4 : M.gridB cs k p q = false)  : Meets cfx 0 18 [lwA nm w g y n a b r p q k] [bkG gs T, bkI cs U] (iV 2) [bkG gs T, bkI cs U] := by
  refine Meets.post (mev (ans := [Ans.go, zF, zF, zF, zF, zF, Ans.ret (V.raw (.bool (M.nameB nm))), zF, Ans.reth (V.raw (.bool (M.sidesB w g y))) [bkG gs T, bkI cs U, bkW nm w g y n a b r p q k], zF, zF, Ans.reth (V.raw (.bool (M.hoopsB gs n))) [bkG gs T, bkI cs U, bkW nm w g y n a b r p q k], zF, zF, Ans.reth (V.raw (.bool (M.gridB cs k p q))) [bkG gs T, bkI cs U, bkW nm w g y n a b r p q k], zF, zT, zT, zT]) (v := (iV 2)) (h' := [bkG gs T, bkI cs U, bkW nm w g y n a b r p q k]) (cons := [(decide ((n : Int) < 1) = false), zN, (decide (12 < (n : Int)) = false), zN, (decide (256 < (k : Int)) = false), (Ret cfx 58 [V.raw (Value.string nm)] (V.raw (.bool (M.nameB nm)))), ((!M.nameB nm) = false), ((zq80 nm w g y n a b r p q k gs T cs U)), zN, ((!M.sidesB w g y) = false), ((zq88 n gs T cs U nm w g y a b r p q k)), zN, ((!M.hoopsB gs n) = false), ((zq78 nm w g y n a b r p q k gs T cs U)), zN, ((!M.gridB cs k p q) = true), zY, zY]) zk
    ⟨zdo, rfl, zdo, rfl, zdo, (lnIsName _ hnm), zdf, (by exact below2 (lim := 0) rfl rfl 0 1 (N := []) (lnSides nm gs cs n k T U w g y a b r p q) (mix_all _ _) (ints_all _) rfl zn rfl rfl zz), rfl, zdf, (by exact below1 (lim := 0) rfl rfl 0 (N := []) (hoopsFit_all gs n T hz zo) (mix_all _ _) rfl zn rfl zz), rfl, zdf, (by exact below2 (lim := 0) rfl rfl 0 1 (N := []) (cellsFit_all nm gs cs n k T U w g y a b r p q hzc) (mix_all _ _) (ints_all _) rfl zn rfl rfl zz), rfl, zdf, rfl, rfl, trivial⟩) zk zt0
theorem check_post_false (hz : n * 5 ≤ gs.length) (hzc : k * 3 ≤ cs.length) (hn : 1 ≤ n ∧ n ≤ 12) (hk : k ≤ 256) (hnm : nm.size ≤ 100) (PB : Bool) (hpf : Meets cfx 0 62 [lwA nm w g y n a b r p q k] [bkG gs T, bkI cs U] (.raw (.bool PB)) [bkG gs T, bkI cs U]) (h1 : M.nameB nm = true) (h2 : M.sidesB w g y = true) (h3 : M.hoopsB gs n = true) (h4 : M.gridB cs k p q = true) (h5 : PB = false)  : Meets cfx 0 18 [lwA nm w g y n a b r p q k] [bkG gs T, bkI cs U] (iV 2) [bkG gs T, bkI cs U] := by
  refine Meets.post (mev (ans := [Ans.go, zF, zF, zF, zF, zF, Ans.ret (V.raw (.bool (M.nameB nm))), zF, Ans.reth (V.raw (.bool (M.sidesB w g y))) [bkG gs T, bkI cs U, bkW nm w g y n a b r p q k], zF, zF, Ans.reth (V.raw (.bool (M.hoopsB gs n))) [bkG gs T, bkI cs U, bkW nm w g y n a b r p q k], zF, zF, Ans.reth (V.raw (.bool (M.gridB cs k p q))) [bkG gs T, bkI cs U, bkW nm w g y n a b r p q k], zF, zF, Ans.reth (V.raw (.bool PB)) [bkG gs T, bkI cs U, bkW nm w g y n a b r p q k], zF, zT]) (v := (iV 2)) (h' := [bkG gs T, bkI cs U, bkW nm w g y n a b r p q k]) (cons := [(decide ((n : Int) < 1) = false), zN, (decide (12 < (n : Int)) = false), zN, (decide (256 < (k : Int)) = false), (Ret cfx 58 [V.raw (Value.string nm)] (V.raw (.bool (M.nameB nm)))), ((!M.nameB nm) = false), ((zq80 nm w g y n a b r p q k gs T cs U)), zN, ((!M.sidesB w g y) = false), ((zq88 n gs T cs U nm w g y a b r p q k)), zN, ((!M.hoopsB gs n) = false), ((zq78 nm w g y n a b r p q k gs T cs U)), zN, ((!M.gridB cs k p q) = false), (Meets cfx 0 62 [lwA nm w g y n a b r p q k] [bkG gs T, bkI cs U, bkW nm w g y n a b r p q k] (V.raw (.bool PB)) [bkG gs T, bkI cs U, bkW nm w g y n a b r p q k]), zN, ((!PB) = true)]) zk
    ⟨zdo, rfl, zdo, rfl, zdo, (lnIsName _ hnm), zdf, (by exact below2 (lim := 0) rfl rfl 0 1 (N := []) (lnSides nm gs cs n k T U w g y a b r p q) (mix_all _ _) (ints_all _) rfl zn rfl rfl zz), rfl, zdf, (by exact below1 (lim := 0) rfl rfl 0 (N := []) (hoopsFit_all gs n T hz zo) (mix_all _ _) rfl zn rfl zz), rfl, zdf, (by exact below2 (lim := 0) rfl rfl 0 1 (N := []) (cellsFit_all nm gs cs n k T U w g y a b r p q hzc) (mix_all _ _) (ints_all _) rfl zn rfl rfl zz), rfl, zdf, (by exact below2 (lim := 0) rfl rfl 0 1 (N := []) (hpf) (mix_all _ _) (ints_all _) rfl zn rfl rfl zz), rfl, zdf, trivial⟩) zk zt0
theorem check_post_true (hz : n * 5 ≤ gs.length) (hzc : k * 3 ≤ cs.length) (hn : 1 ≤ n ∧ n ≤ 12) (hk : k ≤ 256) (hnm : nm.size ≤ 100) (PB : Bool) (hpf : Meets cfx 0 62 [lwA nm w g y n a b r p q k] [bkG gs T, bkI cs U] (.raw (.bool PB)) [bkG gs T, bkI cs U]) (h1 : M.nameB nm = true) (h2 : M.sidesB w g y = true) (h3 : M.hoopsB gs n = true) (h4 : M.gridB cs k p q = true) (h5 : PB = true)  : Meets cfx 0 18 [lwA nm w g y n a b r p q k] [bkG gs T, bkI cs U] (iV 0) [bkG gs T, bkI cs U] := by
  refine Meets.post (mev (ans := [Ans.go, zF, zF, zF, zF, zF, Ans.ret (V.raw (.bool (M.nameB nm))), zF, Ans.reth (V.raw (.bool (M.sidesB w g y))) [bkG gs T, bkI cs U, bkW nm w g y n a b r p q k], zF, zF, Ans.reth (V.raw (.bool (M.hoopsB gs n))) [bkG gs T, bkI cs U, bkW nm w g y n a b r p q k], zF, zF, Ans.reth (V.raw (.bool (M.gridB cs k p q))) [bkG gs T, bkI cs U, bkW nm w g y n a b r p q k], zF, zF, Ans.reth (V.raw (.bool PB)) [bkG gs T, bkI cs U, bkW nm w g y n a b r p q k], zF, zF]) (v := (iV 0)) (h' := [bkG gs T, bkI cs U, bkW nm w g y n a b r p q k]) (cons := [(decide ((n : Int) < 1) = false), zN, (decide (12 < (n : Int)) = false), zN, (decide (256 < (k : Int)) = false), (Ret cfx 58 [V.raw (Value.string nm)] (V.raw (.bool (M.nameB nm)))), ((!M.nameB nm) = false), ((zq80 nm w g y n a b r p q k gs T cs U)), zN, ((!M.sidesB w g y) = false), ((zq88 n gs T cs U nm w g y a b r p q k)), zN, ((!M.hoopsB gs n) = false), ((zq78 nm w g y n a b r p q k gs T cs U)), zN, ((!M.gridB cs k p q) = false), (Meets cfx 0 62 [lwA nm w g y n a b r p q k] [bkG gs T, bkI cs U, bkW nm w g y n a b r p q k] (V.raw (.bool PB)) [bkG gs T, bkI cs U, bkW nm w g y n a b r p q k]), zN, ((!PB) = false)]) zk
    ⟨zdo, rfl, zdo, rfl, zdo, (lnIsName _ hnm), zdf, (by exact below2 (lim := 0) rfl rfl 0 1 (N := []) (lnSides nm gs cs n k T U w g y a b r p q) (mix_all _ _) (ints_all _) rfl zn rfl rfl zz), rfl, zdf, (by exact below1 (lim := 0) rfl rfl 0 (N := []) (hoopsFit_all gs n T hz zo) (mix_all _ _) rfl zn rfl zz), rfl, zdf, (by exact below2 (lim := 0) rfl rfl 0 1 (N := []) (cellsFit_all nm gs cs n k T U w g y a b r p q hzc) (mix_all _ _) (ints_all _) rfl zn rfl rfl zz), rfl, zdf, (by exact below2 (lim := 0) rfl rfl 0 1 (N := []) (hpf) (mix_all _ _) (ints_all _) rfl zn rfl rfl zz), rfl, zdf, trivial⟩) zk zt0
def M.rowP (gs : List Int) (n : Nat) (a b r : Int) : List Int := tab (n * 6) (M.postF gs) ++ [a, b, r]
def M.postsB (gs : List Int) (n : Nat) (w g a b r : Int) : Bool := M.btw r 1 8192 && (M.fitsB w g (M.rowP gs n a b r) (2 * n + 1) && M.apartB (M.rowP gs n a b r) (2 * n + 1))
theorem M.rowP_len (gs : List Int) (n : Nat) (a b r : Int) : (M.rowP gs n a b r).length = (2 * n + 1) * 3 := by
  simp [M.rowP, tab_len]; omega
theorem M.rowP_left {gs : List Int} {n : Nat} {a b r : Int} {j : Nat} (h : j < n * 6) : at' (M.rowP gs n a b r) j = M.postF gs j := by
  rw [← at_tab (f := M.postF gs) h]
  unfold M.rowP at'
  rw [List.getD_eq_getElem?_getD, List.getD_eq_getElem?_getD, List.getElem?_append_left (by rw [tab_len]; exact h)]
theorem M.rowP_right {gs : List Int} {n : Nat} {a b r : Int} (j : Nat) : at' (M.rowP gs n a b r) (n * 6 + j) = at' [a, b, r] j := by
  unfold M.rowP at'
  rw [List.getD_eq_getElem?_getD, List.getD_eq_getElem?_getD, List.getElem?_append_right (by rw [tab_len]; omega), tab_len, Nat.add_sub_cancel_left]
theorem M.rowP_rad {gs : List Int} {n : Nat} {a b r : Int} (hr : M.btw r 1 8192 = true) (hh : M.hoopsB gs n = true) : ∀ j : Nat, j < 2 * n + 1 → 1 ≤ at' (M.rowP gs n a b r) (j * 3 + 2) ∧ at' (M.rowP gs n a b r) (j * 3 + 2) ≤ 8192 := fun j hj => by
  by_cases h : j < 2 * n
  · rw [M.rowP_left (by omega)]
    have h6 := (M.hoop_facts (all_range hh ((j * 3 + 2) / 6) zo)).2.2.2.2
    unfold M.postF
    rw [if_neg (by omega), if_neg (by omega), if_neg (by omega), if_neg (by omega)]
    exact h6
  · rw [show j * 3 + 2 = n * 6 + 2 by omega, M.rowP_right]
    exact M.btw_iff.1 hr
theorem lnPosts (hz : n * 5 ≤ gs.length) (hn : n ≤ 20) (hg : M.hoopsB gs n = true) : Meets cfx 0 19 [lwA nm w g y n a b r p q k] [bkG gs T, bkI cs U] (.slo 2 (2 * n + 1)) ([bkG gs T, bkI cs U, some (.cells (ints (M.rowP gs n a b r)) 26 (.row 3))]) :=
  posts_ok nm gs cs n k T U w g y a b r p q hz hn (po_loop nm gs cs n k T U w g y a b r p q hz hn hg)
theorem lnPostsFit (hz : n * 5 ≤ gs.length) (hn : n ≤ 20) (hg : M.hoopsB gs n = true) (hs : M.sidesB w g y = true) : Meets cfx 0 62 [lwA nm w g y n a b r p q k] [bkG gs T, bkI cs U] (.raw (.bool (M.postsB gs n w g a b r))) [bkG gs T, bkI cs U] := by
  unfold M.postsB
  cases hr : M.btw r 1 8192 with
  | false => exact postsFit_peg nm gs cs n k T U w g y a b r p q hr
  | true =>
  rw [Bool.true_and]
  simp only [M.sidesB, Bool.and_eq_true, M.btw_iff] at hs
  have hl := M.rowP_len gs n a b r
  exact postsFit_all nm gs cs (M.rowP gs n a b r) n k (2 * n + 1) T U w g y a b r p q (lnPosts nm gs cs n k T U w g y a b r p q hz hn hg) hr hl zo zo zo (M.rowP_rad hr hg) zo zo
def M.lawnB (nm : ByteArray) (gs cs : List Int) (n k : Nat) (w g y a b r p q : Int) : Bool := M.nameB nm && (M.sidesB w g y && (M.hoopsB gs n && (M.gridB cs k p q && M.postsB gs n w g a b r)))
def M.lawnE (nm : ByteArray) (gs cs : List Int) (n k : Nat) (w g y a b r p q : Int) : Int := if n = 0 ∨ 12 < n ∨ 256 < k then 6 else if M.lawnB nm gs cs n k w g y a b r p q = true then 0 else 2
theorem lnCheck (hz : n * 5 ≤ gs.length) (hzc : k * 3 ≤ cs.length) (hn : n ≤ 20) (hk : k ≤ 300) (hnm : nm.size ≤ 100) : Meets cfx 0 18 [lwA nm w g y n a b r p q k] [bkG gs T, bkI cs U] (.raw (.int .i64 (M.lawnE nm gs cs n k w g y a b r p q))) [bkG gs T, bkI cs U] := by
  unfold M.lawnE
  by_cases h0 : n = 0
  · rw [if_pos (.inl h0)]; exact check_many0 nm gs cs n k T U w g y a b r p q h0
  by_cases h1 : 12 < n
  · rw [if_pos (.inr (.inl h1))]; exact check_many1 nm gs cs n k T U w g y a b r p q (by omega) h1 (by omega)
  by_cases h2 : 256 < k
  · rw [if_pos (.inr (.inr h2))]; exact check_many2 nm gs cs n k T U w g y a b r p q (by omega) (by omega) h2 (by omega)
  rw [if_neg (by omega)]
  unfold M.lawnB
  have hn' : 1 ≤ n ∧ n ≤ 12 := by omega
  have hk' : k ≤ 256 := by omega
  cases e1 : M.nameB nm with
  | false => exact check_name nm gs cs n k T U w g y a b r p q hz hzc hn' hk' hnm e1
  | true =>
  cases e2 : M.sidesB w g y with
  | false => exact check_side nm gs cs n k T U w g y a b r p q hz hzc hn' hk' hnm e1 e2
  | true =>
  cases e3 : M.hoopsB gs n with
  | false => exact check_hoop nm gs cs n k T U w g y a b r p q hz hzc hn' hk' hnm e1 e2 e3
  | true =>
  cases e4 : M.gridB cs k p q with
  | false => exact check_grid nm gs cs n k T U w g y a b r p q hz hzc hn' hk' hnm e1 e2 e3 e4
  | true =>
  have hp := lnPostsFit nm gs cs n k T U w g y a b r p q hz hn e3 e2
  cases e5 : M.postsB gs n w g a b r with
  | false => exact check_post_false nm gs cs n k T U w g y a b r p q hz hzc hn' hk' hnm _ hp e1 e2 e3 e4 e5
  | true => exact check_post_true nm gs cs n k T U w g y a b r p q hz hzc hn' hk' hnm _ hp e1 e2 e3 e4 e5
def ixf_T (os : List Int) (m : Nat) (W : Nat) (u v s : Int) (i : Int) : List V := (catV [.slo 0 m, V.fn (Fn.func 107) [] [.ptr 1 0], uV, .any 3, iV 0, .any 5, .slo 0 m, iV (m : Int), iV i] (anyR 9 10 []))
def ixf_H (os : List Int) (m : Nat) (W : Nat) (u v s : Int) (i : Int) : Heap := [bkI os W, some (.cells [iV u, iV v, iV s] 26 .ro)]
def ixf_T1 (os : List Int) (m : Nat) (W : Nat) (u v s : Int) (i : Int) : List V := (catV [.slo 0 m, V.fn (Fn.func 107) [] [.ptr 1 0], uV, .any 3, iV i, .any 5, .slo 0 m, iV (m : Int), iV i] (anyR 9 10 []))
def ixf_H1 (os : List Int) (m : Nat) (W : Nat) (u v s : Int) (i : Int) : Heap := [bkI os W, some (.cells [iV u, iV v, iV s] 26 .ro)]
abbrev zq59 (os : List Int) (i : Int) (W : Nat) (u : Int) (v : Int) (s : Int) : Prop := Meets cfx 0 107 [V.raw (.agg { toList := [.int .i64 (at' os (i.toNat * 3)), .int .i64 (at' os (i.toNat * 3 + 1)), .int .i64 (at' os (i.toNat * 3 + 2))] }), .ptr 1 0] [bkI os W, some (.cells [iV u, iV v, iV s] 26 .ro)] (V.raw (.bool (M.overB u v s (at' os (i.toNat * 3)) (at' os (i.toNat * 3 + 1)) (at' os (i.toNat * 3 + 2))))) [bkI os W, some (.cells [iV u, iV v, iV s] 26 .ro)]
theorem ixf_1 (os : List Int) (m : Nat) (W : Nat) (u v s : Int) (hz : m * 3 ≤ os.length) (hm : m ≤ 1000) (hd : chkDisc u v s = 0) (i : Int) (hi1 : 0 ≤ i) (hq : i < ↑m → chkDisc (at' os (i.toNat * 3)) (at' os (i.toNat * 3 + 1)) (at' os (i.toNat * 3 + 2)) = 0) (f0 : i < (m : Int)) (f1 : M.overB u v s (at' os (i.toNat * 3)) (at' os (i.toNat * 3 + 1)) (at' os (i.toNat * 3 + 2)) = true) : Runs cfx 0 2 none (loopOf cfx.P 106 0) (ixf_T os m W u v s i) (ixf_H os m W u v s i) (Ex.ret) (ixf_T1 os m W u v s i) (ixf_H1 os m W u v s i) := by
  refine Runs.post (t1 := [.slo 0 m, V.fn (Fn.func 107) [] [.ptr 1 0], uV, .any 3, iV i, iV i, .slo 0 m, iV (m : Int), iV i, V.raw (.bool (decide (i < (m : Int)))), iV i, V.fn (Fn.func 107) [] [.ptr 1 0], .slo 0 m, iV i, V.ptr 0 (i.toNat * 3), (rowV os (i.toNat * 3) 3), V.raw (.bool (M.overB u v s (at' os (i.toNat * 3)) (at' os (i.toNat * 3 + 1)) (at' os (i.toNat * 3 + 2)))), iV i, .any 18]) (h1 := [bkI os W, some (.cells [iV u, iV v, iV s] 26 .ro)]) (body_of cfx_mixed cfx_call zz (rnd := none) (fi := 0) (k := 0) (n := 40) (n0 := 2) (ans := [zT, Ans.val 0 ((rowV os (i.toNat * 3) 3)), Ans.reth (V.raw (.bool (M.overB u v s (at' os (i.toNat * 3)) (at' os (i.toNat * 3 + 1)) (at' os (i.toNat * 3 + 2))))) [bkI os W, some (.cells [iV u, iV v, iV s] 26 .ro)], zT]) (cons := [(decide (i < (m : Int)) = true), (0 ≤ i ∧ i < (m : Int)), (loadRow cfx 26 (ints os) (i.toNat * 3) = some ((rowV os (i.toNat * 3) 3))), ((zq59 os i W u v s)), (M.overB u v s (at' os (i.toNat * 3)) (at' os (i.toNat * 3 + 1)) (at' os (i.toNat * 3 + 2)) = true)]) zk
    ⟨zdo, zo, (load_agg 3 zk zk zb zo), (by exact below_ro (lim := 0) (N := []) rfl rfl (fun k => 1) (fun _ => false) (lnTouches _ _ _ _ _ _ hd (hq zo)) ⟨⟨_, _, rfl, rfl, .inl ⟨rfl, _, rfl⟩⟩, trivial⟩ (fun _ _ => rfl) rfl rfl rfl zn zz), zdf, trivial⟩ zb zb noRnd (noRanges zk)) zt5
theorem ixf_2 (os : List Int) (m : Nat) (W : Nat) (u v s : Int) (hz : m * 3 ≤ os.length) (hm : m ≤ 1000) (hd : chkDisc u v s = 0) (i : Int) (hi1 : 0 ≤ i) (hq : i < ↑m → chkDisc (at' os (i.toNat * 3)) (at' os (i.toNat * 3 + 1)) (at' os (i.toNat * 3 + 2)) = 0) (f0 : i < (m : Int)) (f1 : M.overB u v s (at' os (i.toNat * 3)) (at' os (i.toNat * 3 + 1)) (at' os (i.toNat * 3 + 2)) = false) : Runs cfx 0 2 none (loopOf cfx.P 106 0) (ixf_T os m W u v s i) (ixf_H os m W u v s i) (Ex.normal) (ixf_T os m W u v s (i + 1)) (ixf_H os m W u v s (i + 1)) := by
  refine Runs.post (t1 := [.slo 0 m, V.fn (Fn.func 107) [] [.ptr 1 0], uV, .any 3, iV 0, iV i, .slo 0 m, iV (m : Int), iV (i + 1), V.raw (.bool (decide (i < (m : Int)))), iV i, V.fn (Fn.func 107) [] [.ptr 1 0], .slo 0 m, iV i, V.ptr 0 (i.toNat * 3), (rowV os (i.toNat * 3) 3), V.raw (.bool (M.overB u v s (at' os (i.toNat * 3)) (at' os (i.toNat * 3 + 1)) (at' os (i.toNat * 3 + 2)))), .any 17, iV (i + 1)]) (h1 := [bkI os W, some (.cells [iV u, iV v, iV s] 26 .ro)]) (body_of cfx_mixed cfx_call zz (rnd := none) (fi := 0) (k := 0) (n := 40) (n0 := 2) (ans := [zT, Ans.val 0 ((rowV os (i.toNat * 3) 3)), Ans.reth (V.raw (.bool (M.overB u v s (at' os (i.toNat * 3)) (at' os (i.toNat * 3 + 1)) (at' os (i.toNat * 3 + 2))))) [bkI os W, some (.cells [iV u, iV v, iV s] 26 .ro)], zF]) (cons := [(decide (i < (m : Int)) = true), (0 ≤ i ∧ i < (m : Int)), (loadRow cfx 26 (ints os) (i.toNat * 3) = some ((rowV os (i.toNat * 3) 3))), ((zq59 os i W u v s)), (M.overB u v s (at' os (i.toNat * 3)) (at' os (i.toNat * 3 + 1)) (at' os (i.toNat * 3 + 2)) = false), (inR IntKind.i64 (i + 1))]) zk
    ⟨zdo, zo, (load_agg 3 zk zk zb zo), (by exact below_ro (lim := 0) (N := []) rfl rfl (fun k => 1) (fun _ => false) (lnTouches _ _ _ _ _ _ hd (hq zo)) ⟨⟨_, _, rfl, rfl, .inl ⟨rfl, _, rfl⟩⟩, trivial⟩ (fun _ _ => rfl) rfl rfl rfl zn zz), zdf, inR_i64 zo zo, trivial⟩ zb zb noRnd (noRanges zk)) zt5
def ixf_T3 (os : List Int) (m : Nat) (W : Nat) (u v s : Int) (i : Int) : List V := (catV [.slo 0 m, V.fn (Fn.func 107) [] [.ptr 1 0], uV, .any 3, iV 0, .any 5, .slo 0 m, iV (m : Int), iV i] (anyR 9 10 []))
def ixf_H3 (os : List Int) (m : Nat) (W : Nat) (u v s : Int) (i : Int) : Heap := [bkI os W, some (.cells [iV u, iV v, iV s] 26 .ro)]
theorem ixf_3 (os : List Int) (m : Nat) (W : Nat) (u v s : Int) (hz : m * 3 ≤ os.length) (hm : m ≤ 1000) (hd : chkDisc u v s = 0) (i : Int) (hi1 : 0 ≤ i) (hq : i < ↑m → chkDisc (at' os (i.toNat * 3)) (at' os (i.toNat * 3 + 1)) (at' os (i.toNat * 3 + 2)) = 0) (f0 : ¬i < (m : Int)) : Runs cfx 0 2 none (loopOf cfx.P 106 0) (ixf_T os m W u v s i) (ixf_H os m W u v s i) (Ex.exit 0) (ixf_T3 os m W u v s i) (ixf_H3 os m W u v s i) := by
  refine Runs.post (t1 := (catV [.slo 0 m, V.fn (Fn.func 107) [] [.ptr 1 0], uV, .any 3, iV 0, .any 5, .slo 0 m, iV (m : Int), iV i, V.raw (.bool (decide (i < (m : Int))))] (anyR 10 9 []))) (h1 := [bkI os W, some (.cells [iV u, iV v, iV s] 26 .ro)]) (body_of cfx_mixed cfx_call zz (rnd := none) (fi := 0) (k := 0) (n := 40) (n0 := 2) (ans := [zF]) (cons := [(decide (i < (m : Int)) = false)]) zk
    ⟨zdo, trivial⟩ zb zb noRnd (noRanges zk)) zt5
def M.tchA (os : List Int) (m : Nat) (u v s : Int) : Bool := !(List.range m).all fun i => !M.tchZ os u v s i
theorem ixf_loop (os : List Int) (m : Nat) (W : Nat) (u v s : Int) (hz : m * 3 ≤ os.length) (hm : m ≤ 1000) (hd : chkDisc u v s = 0) (hq : ∀ i : Nat, i < m → chkDisc (at' os (i * 3)) (at' os (i * 3 + 1)) (at' os (i * 3 + 2)) = 0) : (M.tchA os m u v s = false ∧ Runs cfx 0 2 none (.loop (loopOf cfx.P 106 0)) (ixf_T os m W u v s 0) (ixf_H os m W u v s 0) (.exit 0) (ixf_T3 os m W u v s m) (ixf_H3 os m W u v s m)) ∨ (M.tchA os m u v s = true ∧ ∃ i : Nat, Runs cfx 0 2 none (.loop (loopOf cfx.P 106 0)) (ixf_T os m W u v s 0) (ixf_H os m W u v s 0) (.ret) (ixf_T1 os m W u v s i) (ixf_H1 os m W u v s i)) := by
  unfold M.tchA
  rcases upto_find (c := cfx) (lim := 0) (n0 := 2) (x := loopOf cfx.P 106 0) noRnd (fun i => !M.tchZ os u v s i) (fun i : Nat => ixf_T os m W u v s i) (fun i : Nat => ixf_H os m W u v s i) m (fun i : Nat => ixf_T1 os m W u v s i) (fun i : Nat => ixf_H1 os m W u v s i) (e := .exit 0) (e1 := .ret) (by simp) (by simp)
    (fun i hi hg => ixf_2 os m W u v s hz hm hd i (by omega) (fun _ => by simp only [Int.toNat_natCast]; exact hq i hi) (by omega) (show M.tchZ os u v s i = false by simpa using hg))
    (fun i hi hg => ixf_1 os m W u v s hz hm hd i (by omega) (fun _ => by simp only [Int.toNat_natCast]; exact hq i hi) (by omega) (show M.tchZ os u v s i = true by simpa using hg))
    (ixf_3 os m W u v s hz hm hd m zo (fun h => by omega) zo) with ⟨h1, h2⟩ | ⟨h1, i, hi, h2, h3, h4⟩
  · exact .inl ⟨by rw [h1]; rfl, h2⟩
  · exact .inr ⟨by rw [h1]; rfl, i, h4⟩
abbrev zq89 (m : Nat) : List V := (catV [.slo 0 m, V.fn (Fn.func 107) [] [.ptr 1 0], uV, .any 3, iV 0, .any 5, .slo 0 m, iV (m : Int), iV (m : Int)] (anyR 9 10 []))
abbrev zq100 (m : Nat) : List V := (catV [.slo 0 m, V.fn (Fn.func 107) [] [.ptr 1 0], uV, uV, iV 0, uV, .slo 0 m, iV (m : Int), iV 0] (repU 10 []))
abbrev zq113 (os : List Int) (W : Nat) (u : Int) (v : Int) (s : Int) : Heap := [bkI os W, some (.cells [.raw (.int .i64 u), .raw (.int .i64 v), .raw (.int .i64 s)] 26 .ro)]
theorem cfn_no (os : List Int) (m : Nat) (W : Nat) (u v s : Int) (hz : m * 3 ≤ os.length) (hm : m ≤ 1000) (hd : chkDisc u v s = 0) (hR : Runs cfx 0 2 none (.loop (loopOf cfx.P 106 0)) (ixf_T os m W u v s 0) (ixf_H os m W u v s 0) (.exit 0) (ixf_T3 os m W u v s m) (ixf_H3 os m W u v s m))  : Meets cfx 0 77 [.slo 0 m, V.fn (Fn.func 107) [] [.ptr 1 0]] (zq113 os W u v s) (V.raw (.bool false)) [bkI os W, some (.cells [iV u, iV v, iV s] 26 .ro)] := by
  refine Meets.post (mev (ans := [Ans.go, Ans.go, Ans.loop (Ex.exit 0) (zq89 m) [bkI os W, some (.cells [iV u, iV v, iV s] 26 .ro)]]) (v := V.raw (.bool false)) (h' := [bkI os W, some (.cells [iV u, iV v, iV s] 26 .ro)]) (cons := [(Runs cfx 0 2 none (.loop (loopOf cfx.P 106 0)) (zq100 m) [bkI os W, some (.cells [iV u, iV v, iV s] 26 .ro)] (Ex.exit 0) (zq89 m) [bkI os W, some (.cells [iV u, iV v, iV s] 26 .ro)])]) zk
    ⟨(by
      refine Runs.pre (fun b e => by cases e) (fun RT RH => ?_) (hR)
      exact reshape2 (lim := 0) 2 (t := (zq100 m)) (h := [bkI os W, some (.cells [iV u, iV v, iV s] 26 .ro)]) cfx_G rfl [] zk zk zdr RT RH), trivial⟩) zk zt5
abbrev zq83 (m : Nat) (i : Nat) : List V := (catV [.slo 0 m, V.fn (Fn.func 107) [] [.ptr 1 0], uV, .any 3, iV (i : Int), .any 5, .slo 0 m, iV (m : Int), iV (i : Int)] (anyR 9 10 []))
theorem cfn_yes (os : List Int) (m : Nat) (W : Nat) (u v s : Int) (hz : m * 3 ≤ os.length) (hm : m ≤ 1000) (hd : chkDisc u v s = 0) (i : Nat) (hR : Runs cfx 0 2 none (.loop (loopOf cfx.P 106 0)) (ixf_T os m W u v s 0) (ixf_H os m W u v s 0) (.ret) (ixf_T1 os m W u v s i) (ixf_H1 os m W u v s i))  : Meets cfx 0 77 [.slo 0 m, V.fn (Fn.func 107) [] [.ptr 1 0]] (zq113 os W u v s) (V.raw (.bool true)) [bkI os W, some (.cells [iV u, iV v, iV s] 26 .ro)] := by
  refine Meets.post (mev (ans := [Ans.go, Ans.go, Ans.loop Ex.ret (zq83 m i) [bkI os W, some (.cells [iV u, iV v, iV s] 26 .ro)]]) (v := V.raw (.bool true)) (h' := [bkI os W, some (.cells [iV u, iV v, iV s] 26 .ro)]) (cons := [(Runs cfx 0 2 none (.loop (loopOf cfx.P 106 0)) (zq100 m) [bkI os W, some (.cells [iV u, iV v, iV s] 26 .ro)] (Ex.ret) (zq83 m i) [bkI os W, some (.cells [iV u, iV v, iV s] 26 .ro)])]) zk
    ⟨(by
      refine Runs.pre (fun b e => by cases e) (fun RT RH => ?_) (hR)
      exact reshape2 (lim := 0) 2 (t := (zq100 m)) (h := [bkI os W, some (.cells [iV u, iV v, iV s] 26 .ro)]) cfx_G rfl [] zk zk zdr RT RH), trivial⟩) zk zt5
theorem lnContains (os : List Int) (m : Nat) (W : Nat) (u v s : Int) (hz : m * 3 ≤ os.length) (hm : m ≤ 1000) (hd : chkDisc u v s = 0) (hq : ∀ i : Nat, i < m → chkDisc (at' os (i * 3)) (at' os (i * 3 + 1)) (at' os (i * 3 + 2)) = 0) : Meets cfx 0 77 [.slo 0 m, V.fn (Fn.func 107) [] [.ptr 1 0]] (zq113 os W u v s) (.raw (.bool (M.tchA os m u v s))) (zq113 os W u v s) := by
  rcases ixf_loop os m W u v s hz hm hd hq with ⟨e, R⟩ | ⟨e, i, R⟩ <;> rw [e]
  · exact cfn_no os m W u v s hz hm hd R
  · exact cfn_yes os m W u v s hz hm hd i R
abbrev zq118 (gs : List Int) (T : Nat) (cs : List Int) (U : Nat) (os : List Int) (W : Nat) (nm : ByteArray) (w : Int) (g : Int) (y : Int) (n : Nat) (a : Int) (b : Int) (r : Int) (p : Int) (q : Int) (k : Nat) (u : Int) (v : Int) (s : Int) (m : Nat) (ps : List Int) : Heap := [bkG gs T, bkI cs U, bkI os W, bkW nm w g y n a b r p q k, bkP u v, some (.cells [iV u, iV v] 24 (.row 2)), bkW nm w g y n a b r p q k, bkP u v, some (.cells [iV (M.radE s), iV (M.othE os m)] 32 (.row 1)), bkP u v, some (.cells [iV u, iV v, iV s] 26 .rw), bkW nm w g y n a b r p q k, bkP u v, some (.cells (ints ps) 26 (.row 3))]
abbrev zq24 (c : Nat) (gs : List Int) (T : Nat) (cs : List Int) (U : Nat) (os : List Int) (W : Nat) (nm : ByteArray) (w : Int) (g : Int) (y : Int) (n : Nat) (a : Int) (b : Int) (r : Int) (p : Int) (q : Int) (k : Nat) (u : Int) (v : Int) (s : Int) (m : Nat) (ps : List Int) : Prop := Meets cfx 0 77 [.slo 13 c, V.fn (Fn.func 107) [] [.ptr 10 0]] (zq118 gs T cs U os W nm w g y n a b r p q k u v s m ps) (V.raw (.bool (M.tchA ps c u v s))) (zq118 gs T cs U os W nm w g y n a b r p q k u v s m ps)
abbrev zq27 (nm : ByteArray) (w : Int) (g : Int) (y : Int) (n : Nat) (a : Int) (b : Int) (r : Int) (p : Int) (q : Int) (k : Nat) (gs : List Int) (T : Nat) (cs : List Int) (U : Nat) (os : List Int) (W : Nat) (u : Int) (v : Int) (s : Int) (m : Nat) (c : Nat) (ps : List Int) : Prop := Meets cfx 0 19 [lwA nm w g y n a b r p q k] [bkG gs T, bkI cs U, bkI os W, bkW nm w g y n a b r p q k, bkP u v, some (.cells [iV u, iV v] 24 (.row 2)), bkW nm w g y n a b r p q k, bkP u v, some (.cells [iV (M.radE s), iV (M.othE os m)] 32 (.row 1)), bkP u v, some (.cells [iV u, iV v, iV s] 26 .rw), bkW nm w g y n a b r p q k, bkP u v] (.slo 13 c) (zq118 gs T cs U os W nm w g y n a b r p q k u v s m ps)
abbrev zq51 (m : Nat) (gs : List Int) (T : Nat) (cs : List Int) (U : Nat) (os : List Int) (W : Nat) (nm : ByteArray) (w : Int) (g : Int) (y : Int) (n : Nat) (a : Int) (b : Int) (r : Int) (p : Int) (q : Int) (k : Nat) (u : Int) (v : Int) : Prop := Meets cfx 0 64 [.slo 2 m] [bkG gs T, bkI cs U, bkI os W, bkW nm w g y n a b r p q k, bkP u v, some (.cells [iV u, iV v] 24 (.row 2)), bkW nm w g y n a b r p q k, bkP u v] (iV (M.othE os m)) [bkG gs T, bkI cs U, bkI os W, bkW nm w g y n a b r p q k, bkP u v, some (.cells [iV u, iV v] 24 (.row 2)), bkW nm w g y n a b r p q k, bkP u v]
abbrev zq53 (gs : List Int) (T : Nat) (cs : List Int) (U : Nat) (os : List Int) (W : Nat) (nm : ByteArray) (w : Int) (g : Int) (y : Int) (n : Nat) (a : Int) (b : Int) (r : Int) (p : Int) (q : Int) (k : Nat) (u : Int) (v : Int) (s : Int) (m : Nat) (ps : List Int) : Heap := (zq118 gs T cs U os W nm w g y n a b r p q k u v s m ps)
abbrev zq55 (nm : ByteArray) (w : Int) (g : Int) (y : Int) (n : Nat) (a : Int) (b : Int) (r : Int) (p : Int) (q : Int) (k : Nat) (gs : List Int) (T : Nat) (cs : List Int) (U : Nat) (os : List Int) (W : Nat) (u : Int) (v : Int) (E : Int) : Prop := Meets cfx 0 18 [lwA nm w g y n a b r p q k] [bkG gs T, bkI cs U, bkI os W, bkW nm w g y n a b r p q k, bkP u v, some (.cells [iV u, iV v] 24 (.row 2)), bkW nm w g y n a b r p q k] (iV E) [bkG gs T, bkI cs U, bkI os W, bkW nm w g y n a b r p q k, bkP u v, some (.cells [iV u, iV v] 24 (.row 2)), bkW nm w g y n a b r p q k]
abbrev zq74 (gs : List Int) (T : Nat) (cs : List Int) (U : Nat) (os : List Int) (W : Nat) (nm : ByteArray) (w : Int) (g : Int) (y : Int) (n : Nat) (a : Int) (b : Int) (r : Int) (p : Int) (q : Int) (k : Nat) (u : Int) (v : Int) : Heap := [bkG gs T, bkI cs U, bkI os W, bkW nm w g y n a b r p q k, bkP u v, some (.cells [iV u, iV v] 24 (.row 2)), bkW nm w g y n a b r p q k, bkP u v]
abbrev zq84 (gs : List Int) (T : Nat) (cs : List Int) (U : Nat) (os : List Int) (W : Nat) (nm : ByteArray) (w : Int) (g : Int) (y : Int) (n : Nat) (a : Int) (b : Int) (r : Int) (p : Int) (q : Int) (k : Nat) (u : Int) (v : Int) : Heap := [bkG gs T, bkI cs U, bkI os W, bkW nm w g y n a b r p q k, bkP u v, some (.cells [iV u, iV v] 24 (.row 2)), bkW nm w g y n a b r p q k]
abbrev zq109 (nm : ByteArray) (w : Int) (g : Int) (y : Int) (n : Nat) (a : Int) (b : Int) (r : Int) (p : Int) (q : Int) (k : Nat) (gs : List Int) (T : Nat) (cs : List Int) (U : Nat) (E : Int) : Prop := Meets cfx 0 18 [lwA nm w g y n a b r p q k] [bkG gs T, bkI cs U] (.raw (.int .i64 E)) [bkG gs T, bkI cs U]
theorem lnMay_ok_1 (E : Int) (hC : (zq109 nm w g y n a b r p q k gs T cs U E)) (os : List Int) (m : Nat) (W : Nat) (u v s : Int) (hz : m * 3 ≤ os.length) (hmb : m ≤ 1000000) (hE : E = 0) (hP : M.ptE u v = 0) (hS : M.radE s = 0) (hO : M.othE os m = 0) (ps : List Int) (c : Nat) (hpo : Meets cfx 0 19 [lwA nm w g y n a b r p q k] [bkG gs T, bkI cs U] (.slo 2 c) ([bkG gs T, bkI cs U, some (.cells (ints ps) 26 (.row 3))])) (hzl : ps.length = c * 3) (hc : c ≤ 100) (hm1 : m ≤ 1000) (hd : chkDisc u v s = 0) (hq1 : ∀ i : Nat, i < m → chkDisc (at' os (i * 3)) (at' os (i * 3 + 1)) (at' os (i * 3 + 2)) = 0) (hq2 : ∀ i : Nat, i < c → chkDisc (at' ps (i * 3)) (at' ps (i * 3 + 1)) (at' ps (i * 3 + 2)) = 0) (f0 : M.btw u 0 w = true) (f1 : M.btw v 0 g = true) (f2 : M.tchA ps c u v s = false) : Meets cfx 0 90 [lwA nm w g y n a b r p q k, .raw (.agg #[.int .i64 u, .int .i64 v]), .raw (.int .i64 s), .slo 2 m] [bkG gs T, bkI cs U, bkI os W] (V.raw (.tuple { toList := [.bool !M.tchA os m u v s, .int .i64 0] })) [bkG gs T, bkI cs U, bkI os W] := by
  refine Meets.post (mev (ans := [Ans.go, Ans.go, Ans.reth (iV E) (zq84 gs T cs U os W nm w g y n a b r p q k u v), zF, zT, Ans.ret (iV (M.ptE u v)), zF, zF, Ans.ret (iV (M.radE s)), Ans.reth (iV (M.othE os m)) (zq74 gs T cs U os W nm w g y n a b r p q k u v), Ans.go, zT, zF, zT, zF, zF, zF, Ans.go, Ans.go, Ans.ret (V.raw (.bool (M.btw u 0 w))), zT, Ans.ret (V.raw (.bool (M.btw v 0 g))), zT, zT, Ans.reth (.slo 13 c) (zq53 gs T cs U os W nm w g y n a b r p q k u v s m ps), Ans.reth (V.raw (.bool (M.tchA ps c u v s))) (zq53 gs T cs U os W nm w g y n a b r p q k u v s m ps), zT, zT, Ans.reth (V.raw (.bool (M.tchA os m u v s))) (zq53 gs T cs U os W nm w g y n a b r p q k u v s m ps), zT]) (v := V.raw (.tuple { toList := [.bool !M.tchA os m u v s, .int .i64 0] })) (h' := (zq53 gs T cs U os W nm w g y n a b r p q k u v s m ps)) (cons := [(1 ≤ 9223372036854775807), ((zq55 nm w g y n a b r p q k gs T cs U os W u v E)), ((!decide (E = 0)) = false), zY, ((0 : Int) ≤ (0 : Int) ∧ (0 : Int) < (1 : Int)), (Ret cfx 25 [pV u v] (iV (M.ptE u v))), ((!decide (M.ptE u v = 0)) = false), (inR IntKind.i64 1), zN, (Ret cfx 26 [iV s] (iV (M.radE s))), ((zq51 m gs T cs U os W nm w g y n a b r p q k u v)), (2 ≤ 9223372036854775807), zY, ((0 : Int) ≤ (0 : Int) ∧ (0 : Int) < (2 : Int)), ((!decide (M.radE s = 0)) = false), (inR IntKind.i64 1), zY, ((0 : Int) ≤ (1 : Int) ∧ (1 : Int) < (2 : Int)), ((!decide (M.othE os m = 0)) = false), (inR IntKind.i64 2), zN, zN, (Ret cfx 32 [iV u, iV 0, iV w] (V.raw (.bool (M.btw u 0 w)))), (M.btw u 0 w = true), (Ret cfx 32 [iV v, iV 0, iV g] (V.raw (.bool (M.btw v 0 g)))), zY, (M.btw v 0 g = true), ((zq27 nm w g y n a b r p q k gs T cs U os W u v s m c ps)), ((zq24 c gs T cs U os W nm w g y n a b r p q k u v s m ps)), zY, ((!M.tchA ps c u v s) = true), (Meets cfx 0 77 [.slo 2 m, V.fn (Fn.func 107) [] [.ptr 10 0]] (zq53 gs T cs U os W nm w g y n a b r p q k u v s m ps) (V.raw (.bool (M.tchA os m u v s))) (zq53 gs T cs U os W nm w g y n a b r p q k u v s m ps)), zY]) zk
    ⟨zds, (by exact below2 (lim := 0) rfl rfl 0 1 (N := []) hC (mix_all _ _) (ints_all _) rfl zn rfl rfl zz), zdf, rfl, zo, (lnPoint _ _), zdf, inR_i64 zo zo, rfl, (lnRadius _), (by exact below_ro (lim := 0) (N := []) rfl rfl (fun k => 2) (fun _ => false) (lnOthers os m W hz hmb) ⟨⟨_, _, rfl, ints_all _, .inl ⟨rfl, _, rfl⟩⟩, trivial⟩ (fun _ _ => rfl) rfl rfl rfl zn zz), zds, rfl, zo, zdf, inR_i64 zo zo, rfl, zo, zdf, inR_i64 zo zo, rfl, rfl, (lnBetween _ _ _), zdf, (lnBetween _ _ _), rfl, zdf, (by exact below_ro (lim := 0) (N := [some (.cells (ints ps) 26 (.row 3))]) rfl rfl (fun k => if k = 0 then 0 else 1) (fun _ => false) hpo ⟨⟨_, _, rfl, mix_all _ _, .inl ⟨rfl, _, rfl⟩⟩, ⟨_, _, rfl, ints_all _, .inl ⟨rfl, _, rfl⟩⟩, trivial⟩ (fun _ _ => rfl) rfl rfl rfl (new_row _ _ _) zz), (by exact below_ro (lim := 0) (N := []) rfl rfl (fun k => if k = 0 then 13 else 10) (fun _ => false) (lnContains ps c _ u v s zo zo hd hq2) ⟨⟨_, _, rfl, ints_all _, .inl ⟨rfl, _, rfl⟩⟩, ⟨_, _, rfl, rfl, .inl ⟨rfl, _, rfl⟩⟩, trivial⟩ (fun _ _ => rfl) rfl rfl rfl zn zz), rfl, zdf, (by exact below_ro (lim := 0) (N := []) rfl rfl (fun k => if k = 0 then 2 else 10) (fun _ => false) (lnContains os m W u v s hz hm1 hd hq1) ⟨⟨_, _, rfl, ints_all _, .inl ⟨rfl, _, rfl⟩⟩, ⟨_, _, rfl, rfl, .inl ⟨rfl, _, rfl⟩⟩, trivial⟩ (fun _ _ => rfl) rfl rfl rfl zn zz), rfl, trivial⟩) zk zt6
theorem lnMay_ok_2 (E : Int) (hC : (zq109 nm w g y n a b r p q k gs T cs U E)) (os : List Int) (m : Nat) (W : Nat) (u v s : Int) (hz : m * 3 ≤ os.length) (hmb : m ≤ 1000000) (hE : E = 0) (hP : M.ptE u v = 0) (hS : M.radE s = 0) (hO : M.othE os m = 0) (ps : List Int) (c : Nat) (hpo : Meets cfx 0 19 [lwA nm w g y n a b r p q k] [bkG gs T, bkI cs U] (.slo 2 c) ([bkG gs T, bkI cs U, some (.cells (ints ps) 26 (.row 3))])) (hzl : ps.length = c * 3) (hc : c ≤ 100) (hm1 : m ≤ 1000) (hd : chkDisc u v s = 0) (hq1 : ∀ i : Nat, i < m → chkDisc (at' os (i * 3)) (at' os (i * 3 + 1)) (at' os (i * 3 + 2)) = 0) (hq2 : ∀ i : Nat, i < c → chkDisc (at' ps (i * 3)) (at' ps (i * 3 + 1)) (at' ps (i * 3 + 2)) = 0) (f0 : M.btw u 0 w = true) (f1 : M.btw v 0 g = true) (f2 : M.tchA ps c u v s = true) : Meets cfx 0 90 [lwA nm w g y n a b r p q k, .raw (.agg #[.int .i64 u, .int .i64 v]), .raw (.int .i64 s), .slo 2 m] [bkG gs T, bkI cs U, bkI os W] (V.raw (.tuple { toList := [.bool false, .int .i64 0] })) [bkG gs T, bkI cs U, bkI os W] := by
  refine Meets.post (mev (ans := [Ans.go, Ans.go, Ans.reth (iV E) (zq84 gs T cs U os W nm w g y n a b r p q k u v), zF, zT, Ans.ret (iV (M.ptE u v)), zF, zF, Ans.ret (iV (M.radE s)), Ans.reth (iV (M.othE os m)) (zq74 gs T cs U os W nm w g y n a b r p q k u v), Ans.go, zT, zF, zT, zF, zF, zF, Ans.go, Ans.go, Ans.ret (V.raw (.bool (M.btw u 0 w))), zT, Ans.ret (V.raw (.bool (M.btw v 0 g))), zT, zT, Ans.reth (.slo 13 c) (zq53 gs T cs U os W nm w g y n a b r p q k u v s m ps), Ans.reth (V.raw (.bool (M.tchA ps c u v s))) (zq53 gs T cs U os W nm w g y n a b r p q k u v s m ps), zT, zF, zF]) (v := V.raw (.tuple { toList := [.bool false, .int .i64 0] })) (h' := (zq53 gs T cs U os W nm w g y n a b r p q k u v s m ps)) (cons := [(1 ≤ 9223372036854775807), ((zq55 nm w g y n a b r p q k gs T cs U os W u v E)), ((!decide (E = 0)) = false), zY, ((0 : Int) ≤ (0 : Int) ∧ (0 : Int) < (1 : Int)), (Ret cfx 25 [pV u v] (iV (M.ptE u v))), ((!decide (M.ptE u v = 0)) = false), (inR IntKind.i64 1), zN, (Ret cfx 26 [iV s] (iV (M.radE s))), ((zq51 m gs T cs U os W nm w g y n a b r p q k u v)), (2 ≤ 9223372036854775807), zY, ((0 : Int) ≤ (0 : Int) ∧ (0 : Int) < (2 : Int)), ((!decide (M.radE s = 0)) = false), (inR IntKind.i64 1), zY, ((0 : Int) ≤ (1 : Int) ∧ (1 : Int) < (2 : Int)), ((!decide (M.othE os m = 0)) = false), (inR IntKind.i64 2), zN, zN, (Ret cfx 32 [iV u, iV 0, iV w] (V.raw (.bool (M.btw u 0 w)))), (M.btw u 0 w = true), (Ret cfx 32 [iV v, iV 0, iV g] (V.raw (.bool (M.btw v 0 g)))), zY, (M.btw v 0 g = true), ((zq27 nm w g y n a b r p q k gs T cs U os W u v s m c ps)), ((zq24 c gs T cs U os W nm w g y n a b r p q k u v s m ps)), zY, ((!M.tchA ps c u v s) = false), zN]) zk
    ⟨zds, (by exact below2 (lim := 0) rfl rfl 0 1 (N := []) hC (mix_all _ _) (ints_all _) rfl zn rfl rfl zz), zdf, rfl, zo, (lnPoint _ _), zdf, inR_i64 zo zo, rfl, (lnRadius _), (by exact below_ro (lim := 0) (N := []) rfl rfl (fun k => 2) (fun _ => false) (lnOthers os m W hz hmb) ⟨⟨_, _, rfl, ints_all _, .inl ⟨rfl, _, rfl⟩⟩, trivial⟩ (fun _ _ => rfl) rfl rfl rfl zn zz), zds, rfl, zo, zdf, inR_i64 zo zo, rfl, zo, zdf, inR_i64 zo zo, rfl, rfl, (lnBetween _ _ _), zdf, (lnBetween _ _ _), rfl, zdf, (by exact below_ro (lim := 0) (N := [some (.cells (ints ps) 26 (.row 3))]) rfl rfl (fun k => if k = 0 then 0 else 1) (fun _ => false) hpo ⟨⟨_, _, rfl, mix_all _ _, .inl ⟨rfl, _, rfl⟩⟩, ⟨_, _, rfl, ints_all _, .inl ⟨rfl, _, rfl⟩⟩, trivial⟩ (fun _ _ => rfl) rfl rfl rfl (new_row _ _ _) zz), (by exact below_ro (lim := 0) (N := []) rfl rfl (fun k => if k = 0 then 13 else 10) (fun _ => false) (lnContains ps c _ u v s zo zo hd hq2) ⟨⟨_, _, rfl, ints_all _, .inl ⟨rfl, _, rfl⟩⟩, ⟨_, _, rfl, rfl, .inl ⟨rfl, _, rfl⟩⟩, trivial⟩ (fun _ _ => rfl) rfl rfl rfl zn zz), rfl, zdf, rfl, trivial⟩) zk zt6
abbrev zq56 (gs : List Int) (T : Nat) (cs : List Int) (U : Nat) (os : List Int) (W : Nat) (nm : ByteArray) (w : Int) (g : Int) (y : Int) (n : Nat) (a : Int) (b : Int) (r : Int) (p : Int) (q : Int) (k : Nat) (u : Int) (v : Int) (s : Int) (m : Nat) : Heap := [bkG gs T, bkI cs U, bkI os W, bkW nm w g y n a b r p q k, bkP u v, some (.cells [iV u, iV v] 24 (.row 2)), bkW nm w g y n a b r p q k, bkP u v, some (.cells [iV (M.radE s), iV (M.othE os m)] 32 (.row 1)), bkP u v, some (.cells [iV u, iV v, iV s] 26 .rw), bkW nm w g y n a b r p q k, bkP u v]
theorem lnMay_ok_3 (E : Int) (hC : (zq109 nm w g y n a b r p q k gs T cs U E)) (os : List Int) (m : Nat) (W : Nat) (u v s : Int) (hz : m * 3 ≤ os.length) (hmb : m ≤ 1000000) (hE : E = 0) (hP : M.ptE u v = 0) (hS : M.radE s = 0) (hO : M.othE os m = 0) (ps : List Int) (c : Nat) (hpo : Meets cfx 0 19 [lwA nm w g y n a b r p q k] [bkG gs T, bkI cs U] (.slo 2 c) ([bkG gs T, bkI cs U, some (.cells (ints ps) 26 (.row 3))])) (hzl : ps.length = c * 3) (hc : c ≤ 100) (hm1 : m ≤ 1000) (hd : chkDisc u v s = 0) (hq1 : ∀ i : Nat, i < m → chkDisc (at' os (i * 3)) (at' os (i * 3 + 1)) (at' os (i * 3 + 2)) = 0) (hq2 : ∀ i : Nat, i < c → chkDisc (at' ps (i * 3)) (at' ps (i * 3 + 1)) (at' ps (i * 3 + 2)) = 0) (f0 : M.btw u 0 w = true) (f1 : M.btw v 0 g = false) : Meets cfx 0 90 [lwA nm w g y n a b r p q k, .raw (.agg #[.int .i64 u, .int .i64 v]), .raw (.int .i64 s), .slo 2 m] [bkG gs T, bkI cs U, bkI os W] (V.raw (.tuple { toList := [.bool false, .int .i64 0] })) [bkG gs T, bkI cs U, bkI os W] := by
  refine Meets.post (mev (ans := [Ans.go, Ans.go, Ans.reth (iV E) (zq84 gs T cs U os W nm w g y n a b r p q k u v), zF, zT, Ans.ret (iV (M.ptE u v)), zF, zF, Ans.ret (iV (M.radE s)), Ans.reth (iV (M.othE os m)) (zq74 gs T cs U os W nm w g y n a b r p q k u v), Ans.go, zT, zF, zT, zF, zF, zF, Ans.go, Ans.go, Ans.ret (V.raw (.bool (M.btw u 0 w))), zT, Ans.ret (V.raw (.bool (M.btw v 0 g))), zT, zF, zF, zF, zF]) (v := V.raw (.tuple { toList := [.bool false, .int .i64 0] })) (h' := (zq56 gs T cs U os W nm w g y n a b r p q k u v s m)) (cons := [(1 ≤ 9223372036854775807), ((zq55 nm w g y n a b r p q k gs T cs U os W u v E)), ((!decide (E = 0)) = false), zY, ((0 : Int) ≤ (0 : Int) ∧ (0 : Int) < (1 : Int)), (Ret cfx 25 [pV u v] (iV (M.ptE u v))), ((!decide (M.ptE u v = 0)) = false), (inR IntKind.i64 1), zN, (Ret cfx 26 [iV s] (iV (M.radE s))), ((zq51 m gs T cs U os W nm w g y n a b r p q k u v)), (2 ≤ 9223372036854775807), zY, ((0 : Int) ≤ (0 : Int) ∧ (0 : Int) < (2 : Int)), ((!decide (M.radE s = 0)) = false), (inR IntKind.i64 1), zY, ((0 : Int) ≤ (1 : Int) ∧ (1 : Int) < (2 : Int)), ((!decide (M.othE os m = 0)) = false), (inR IntKind.i64 2), zN, zN, (Ret cfx 32 [iV u, iV 0, iV w] (V.raw (.bool (M.btw u 0 w)))), (M.btw u 0 w = true), (Ret cfx 32 [iV v, iV 0, iV g] (V.raw (.bool (M.btw v 0 g)))), zY, (M.btw v 0 g = false), zN, zN, zN]) zk
    ⟨zds, (by exact below2 (lim := 0) rfl rfl 0 1 (N := []) hC (mix_all _ _) (ints_all _) rfl zn rfl rfl zz), zdf, rfl, zo, (lnPoint _ _), zdf, inR_i64 zo zo, rfl, (lnRadius _), (by exact below_ro (lim := 0) (N := []) rfl rfl (fun k => 2) (fun _ => false) (lnOthers os m W hz hmb) ⟨⟨_, _, rfl, ints_all _, .inl ⟨rfl, _, rfl⟩⟩, trivial⟩ (fun _ _ => rfl) rfl rfl rfl zn zz), zds, rfl, zo, zdf, inR_i64 zo zo, rfl, zo, zdf, inR_i64 zo zo, rfl, rfl, (lnBetween _ _ _), zdf, (lnBetween _ _ _), rfl, zdf, rfl, rfl, rfl, trivial⟩) zk zt6
theorem lnMay_ok_4 (E : Int) (hC : (zq109 nm w g y n a b r p q k gs T cs U E)) (os : List Int) (m : Nat) (W : Nat) (u v s : Int) (hz : m * 3 ≤ os.length) (hmb : m ≤ 1000000) (hE : E = 0) (hP : M.ptE u v = 0) (hS : M.radE s = 0) (hO : M.othE os m = 0) (ps : List Int) (c : Nat) (hpo : Meets cfx 0 19 [lwA nm w g y n a b r p q k] [bkG gs T, bkI cs U] (.slo 2 c) ([bkG gs T, bkI cs U, some (.cells (ints ps) 26 (.row 3))])) (hzl : ps.length = c * 3) (hc : c ≤ 100) (hm1 : m ≤ 1000) (hd : chkDisc u v s = 0) (hq1 : ∀ i : Nat, i < m → chkDisc (at' os (i * 3)) (at' os (i * 3 + 1)) (at' os (i * 3 + 2)) = 0) (hq2 : ∀ i : Nat, i < c → chkDisc (at' ps (i * 3)) (at' ps (i * 3 + 1)) (at' ps (i * 3 + 2)) = 0) (f0 : M.btw u 0 w = false) : Meets cfx 0 90 [lwA nm w g y n a b r p q k, .raw (.agg #[.int .i64 u, .int .i64 v]), .raw (.int .i64 s), .slo 2 m] [bkG gs T, bkI cs U, bkI os W] (V.raw (.tuple { toList := [.bool false, .int .i64 0] })) [bkG gs T, bkI cs U, bkI os W] := by
  refine Meets.post (mev (ans := [Ans.go, Ans.go, Ans.reth (iV E) (zq84 gs T cs U os W nm w g y n a b r p q k u v), zF, zT, Ans.ret (iV (M.ptE u v)), zF, zF, Ans.ret (iV (M.radE s)), Ans.reth (iV (M.othE os m)) (zq74 gs T cs U os W nm w g y n a b r p q k u v), Ans.go, zT, zF, zT, zF, zF, zF, Ans.go, Ans.go, Ans.ret (V.raw (.bool (M.btw u 0 w))), zF, zF, zF, zF, zF, zF]) (v := V.raw (.tuple { toList := [.bool false, .int .i64 0] })) (h' := (zq56 gs T cs U os W nm w g y n a b r p q k u v s m)) (cons := [(1 ≤ 9223372036854775807), ((zq55 nm w g y n a b r p q k gs T cs U os W u v E)), ((!decide (E = 0)) = false), zY, ((0 : Int) ≤ (0 : Int) ∧ (0 : Int) < (1 : Int)), (Ret cfx 25 [pV u v] (iV (M.ptE u v))), ((!decide (M.ptE u v = 0)) = false), (inR IntKind.i64 1), zN, (Ret cfx 26 [iV s] (iV (M.radE s))), ((zq51 m gs T cs U os W nm w g y n a b r p q k u v)), (2 ≤ 9223372036854775807), zY, ((0 : Int) ≤ (0 : Int) ∧ (0 : Int) < (2 : Int)), ((!decide (M.radE s = 0)) = false), (inR IntKind.i64 1), zY, ((0 : Int) ≤ (1 : Int) ∧ (1 : Int) < (2 : Int)), ((!decide (M.othE os m = 0)) = false), (inR IntKind.i64 2), zN, zN, (Ret cfx 32 [iV u, iV 0, iV w] (V.raw (.bool (M.btw u 0 w)))), (M.btw u 0 w = false), zN, zN, zN, zN, zN]) zk
    ⟨zds, (by exact below2 (lim := 0) rfl rfl 0 1 (N := []) hC (mix_all _ _) (ints_all _) rfl zn rfl rfl zz), zdf, rfl, zo, (lnPoint _ _), zdf, inR_i64 zo zo, rfl, (lnRadius _), (by exact below_ro (lim := 0) (N := []) rfl rfl (fun k => 2) (fun _ => false) (lnOthers os m W hz hmb) ⟨⟨_, _, rfl, ints_all _, .inl ⟨rfl, _, rfl⟩⟩, trivial⟩ (fun _ _ => rfl) rfl rfl rfl zn zz), zds, rfl, zo, zdf, inR_i64 zo zo, rfl, zo, zdf, inR_i64 zo zo, rfl, rfl, (lnBetween _ _ _), zdf, rfl, rfl, rfl, rfl, rfl, trivial⟩) zk zt6
theorem lnMay_ok (E : Int) (hC : (zq109 nm w g y n a b r p q k gs T cs U E)) (os : List Int) (m : Nat) (W : Nat) (u v s : Int) (hz : m * 3 ≤ os.length) (hmb : m ≤ 1000000) (hE : E = 0) (hP : M.ptE u v = 0) (hS : M.radE s = 0) (hO : M.othE os m = 0) (ps : List Int) (c : Nat) (hpo : Meets cfx 0 19 [lwA nm w g y n a b r p q k] [bkG gs T, bkI cs U] (.slo 2 c) ([bkG gs T, bkI cs U, some (.cells (ints ps) 26 (.row 3))])) (hzl : ps.length = c * 3) (hc : c ≤ 100) (hm1 : m ≤ 1000) (hd : chkDisc u v s = 0) (hq1 : ∀ i : Nat, i < m → chkDisc (at' os (i * 3)) (at' os (i * 3 + 1)) (at' os (i * 3 + 2)) = 0) (hq2 : ∀ i : Nat, i < c → chkDisc (at' ps (i * 3)) (at' ps (i * 3 + 1)) (at' ps (i * 3 + 2)) = 0) : Meets cfx 0 90 [lwA nm w g y n a b r p q k, .raw (.agg #[.int .i64 u, .int .i64 v]), .raw (.int .i64 s), .slo 2 m] [bkG gs T, bkI cs U, bkI os W] (.raw (.tuple #[.bool ((M.btw u 0 w && M.btw v 0 g) && (!M.tchA ps c u v s && !M.tchA os m u v s)), .int .i64 0])) [bkG gs T, bkI cs U, bkI os W] := by
  by_cases f0 : M.btw u 0 w = true
  ·
    by_cases f1 : M.btw v 0 g = true
    ·
      by_cases f2 : M.tchA ps c u v s = false
      ·
        have e : (.raw (.tuple #[.bool ((M.btw u 0 w && M.btw v 0 g) && (!M.tchA ps c u v s && !M.tchA os m u v s)), .int .i64 0]) : V) = V.raw (.tuple { toList := [.bool !M.tchA os m u v s, .int .i64 0] }) := by (first | rfl | simp_all)
        rw [e]
        exact lnMay_ok_1 nm gs cs n k T U w g y a b r p q E hC os m W u v s hz hmb hE hP hS hO ps c hpo hzl hc hm1 hd hq1 hq2 f0 f1 f2
      ·
        replace f2 : M.tchA ps c u v s = true := by simpa using f2
        have e : (.raw (.tuple #[.bool ((M.btw u 0 w && M.btw v 0 g) && (!M.tchA ps c u v s && !M.tchA os m u v s)), .int .i64 0]) : V) = V.raw (.tuple { toList := [.bool false, .int .i64 0] }) := by (first | rfl | simp_all)
        rw [e]
        exact lnMay_ok_2 nm gs cs n k T U w g y a b r p q E hC os m W u v s hz hmb hE hP hS hO ps c hpo hzl hc hm1 hd hq1 hq2 f0 f1 f2
    ·
      replace f1 : M.btw v 0 g = false := by simpa using f1
      have e : (.raw (.tuple #[.bool ((M.btw u 0 w && M.btw v 0 g) && (!M.tchA ps c u v s && !M.tchA os m u v s)), .int .i64 0]) : V) = V.raw (.tuple { toList := [.bool false, .int .i64 0] }) := by (first | rfl | simp_all)
      rw [e]
      exact lnMay_ok_3 nm gs cs n k T U w g y a b r p q E hC os m W u v s hz hmb hE hP hS hO ps c hpo hzl hc hm1 hd hq1 hq2 f0 f1
  ·
    replace f0 : M.btw u 0 w = false := by simpa using f0
    have e : (.raw (.tuple #[.bool ((M.btw u 0 w && M.btw v 0 g) && (!M.tchA ps c u v s && !M.tchA os m u v s)), .int .i64 0]) : V) = V.raw (.tuple { toList := [.bool false, .int .i64 0] }) := by (first | rfl | simp_all)
    rw [e]
    exact lnMay_ok_4 nm gs cs n k T U w g y a b r p q E hC os m W u v s hz hmb hE hP hS hO ps c hpo hzl hc hm1 hd hq1 hq2 f0
theorem lnOn_ok_1 (E : Int) (hC : (zq109 nm w g y n a b r p q k gs T cs U E)) (u v : Int) (hE : E = 0) (hP : M.ptE u v = 0) (f0 : M.btw u 0 w = true) : Meets cfx 0 50 [lwA nm w g y n a b r p q k, .raw (.agg #[.int .i64 u, .int .i64 v])] [bkG gs T, bkI cs U] (V.raw (.tuple { toList := [.bool (M.btw v 0 g), .int .i64 0] })) [bkG gs T, bkI cs U] := by
  refine Meets.post (mev (ans := [Ans.go, Ans.olds [], Ans.reth (iV E) [bkG gs T, bkI cs U, some (.cells (lwC nm w g y n a b r p q k) 29 .ro), some (.cells [iV u, iV v] 24 .ro)], Ans.ret (iV (M.ptE u v)), Ans.go, zT, zF, zT, zF, zF, zF, Ans.go, Ans.ret (V.raw (.bool (M.btw u 0 w))), zT, Ans.ret (V.raw (.bool (M.btw v 0 g))), zT]) (v := V.raw (.tuple { toList := [.bool (M.btw v 0 g), .int .i64 0] })) (h' := [bkG gs T, bkI cs U, bkW nm w g y n a b r p q k, bkP u v, some (.cells [iV E, iV (M.ptE u v)] 32 (.row 1)), bkW nm w g y n a b r p q k, bkP u v]) (cons := [(Meets cfx 0 18 [lwA nm w g y n a b r p q k] [bkG gs T, bkI cs U, some (.cells (lwC nm w g y n a b r p q k) 29 .ro), some (.cells [iV u, iV v] 24 .ro)] (iV E) [bkG gs T, bkI cs U, some (.cells (lwC nm w g y n a b r p q k) 29 .ro), some (.cells [iV u, iV v] 24 .ro)]), (Ret cfx 25 [pV u v] (iV (M.ptE u v))), (2 ≤ 9223372036854775807), zY, ((0 : Int) ≤ (0 : Int) ∧ (0 : Int) < (2 : Int)), ((!decide (E = 0)) = false), (inR IntKind.i64 1), zY, ((0 : Int) ≤ (1 : Int) ∧ (1 : Int) < (2 : Int)), ((!decide (M.ptE u v = 0)) = false), (inR IntKind.i64 2), zN, zN, (Ret cfx 32 [iV u, iV 0, iV w] (V.raw (.bool (M.btw u 0 w)))), (M.btw u 0 w = true), (Ret cfx 32 [iV v, iV 0, iV g] (V.raw (.bool (M.btw v 0 g)))), zY]) zk
    ⟨(by exact below2 (lim := 0) rfl rfl 0 1 (N := []) hC (mix_all _ _) (ints_all _) rfl zn rfl rfl zz), (lnPoint _ _), zds, rfl, zo, zdf, inR_i64 zo zo, rfl, zo, zdf, inR_i64 zo zo, rfl, rfl, (lnBetween _ _ _), zdf, (lnBetween _ _ _), rfl, trivial⟩) zk zt0
theorem lnOn_ok_2 (E : Int) (hC : (zq109 nm w g y n a b r p q k gs T cs U E)) (u v : Int) (hE : E = 0) (hP : M.ptE u v = 0) (f0 : M.btw u 0 w = false) : Meets cfx 0 50 [lwA nm w g y n a b r p q k, .raw (.agg #[.int .i64 u, .int .i64 v])] [bkG gs T, bkI cs U] (V.raw (.tuple { toList := [.bool false, .int .i64 0] })) [bkG gs T, bkI cs U] := by
  refine Meets.post (mev (ans := [Ans.go, Ans.olds [], Ans.reth (iV E) [bkG gs T, bkI cs U, some (.cells (lwC nm w g y n a b r p q k) 29 .ro), some (.cells [iV u, iV v] 24 .ro)], Ans.ret (iV (M.ptE u v)), Ans.go, zT, zF, zT, zF, zF, zF, Ans.go, Ans.ret (V.raw (.bool (M.btw u 0 w))), zF, zF]) (v := V.raw (.tuple { toList := [.bool false, .int .i64 0] })) (h' := [bkG gs T, bkI cs U, bkW nm w g y n a b r p q k, bkP u v, some (.cells [iV E, iV (M.ptE u v)] 32 (.row 1)), bkW nm w g y n a b r p q k, bkP u v]) (cons := [(Meets cfx 0 18 [lwA nm w g y n a b r p q k] [bkG gs T, bkI cs U, some (.cells (lwC nm w g y n a b r p q k) 29 .ro), some (.cells [iV u, iV v] 24 .ro)] (iV E) [bkG gs T, bkI cs U, some (.cells (lwC nm w g y n a b r p q k) 29 .ro), some (.cells [iV u, iV v] 24 .ro)]), (Ret cfx 25 [pV u v] (iV (M.ptE u v))), (2 ≤ 9223372036854775807), zY, ((0 : Int) ≤ (0 : Int) ∧ (0 : Int) < (2 : Int)), ((!decide (E = 0)) = false), (inR IntKind.i64 1), zY, ((0 : Int) ≤ (1 : Int) ∧ (1 : Int) < (2 : Int)), ((!decide (M.ptE u v = 0)) = false), (inR IntKind.i64 2), zN, zN, (Ret cfx 32 [iV u, iV 0, iV w] (V.raw (.bool (M.btw u 0 w)))), (M.btw u 0 w = false), zN]) zk
    ⟨(by exact below2 (lim := 0) rfl rfl 0 1 (N := []) hC (mix_all _ _) (ints_all _) rfl zn rfl rfl zz), (lnPoint _ _), zds, rfl, zo, zdf, inR_i64 zo zo, rfl, zo, zdf, inR_i64 zo zo, rfl, rfl, (lnBetween _ _ _), zdf, rfl, trivial⟩) zk zt0
theorem lnOn_ok (E : Int) (hC : (zq109 nm w g y n a b r p q k gs T cs U E)) (u v : Int) (hE : E = 0) (hP : M.ptE u v = 0) : Meets cfx 0 50 [lwA nm w g y n a b r p q k, .raw (.agg #[.int .i64 u, .int .i64 v])] [bkG gs T, bkI cs U] (.raw (.tuple #[.bool (M.btw u 0 w && M.btw v 0 g), .int .i64 0])) [bkG gs T, bkI cs U] := by
  by_cases f0 : M.btw u 0 w = true
  ·
    have e : (.raw (.tuple #[.bool (M.btw u 0 w && M.btw v 0 g), .int .i64 0]) : V) = V.raw (.tuple { toList := [.bool (M.btw v 0 g), .int .i64 0] }) := by (first | rfl | simp_all)
    rw [e]
    exact lnOn_ok_1 nm gs cs n k T U w g y a b r p q E hC u v hE hP f0
  ·
    replace f0 : M.btw u 0 w = false := by simpa using f0
    have e : (.raw (.tuple #[.bool (M.btw u 0 w && M.btw v 0 g), .int .i64 0]) : V) = V.raw (.tuple { toList := [.bool false, .int .i64 0] }) := by (first | rfl | simp_all)
    rw [e]
    exact lnOn_ok_2 nm gs cs n k T U w g y a b r p q E hC u v hE hP f0
theorem gr_ints : ints [100, 0, 0] = ([.raw (.int .i64 100), .raw (.int .i64 0), .raw (.int .i64 0)] : List V) := by kernel_rfl
theorem grf_mix : mix [false, false, false, false, true] [50000, 40000, 6000, 500, 0, 30000, 100000, 6200, 500, 1] = ([.raw (.int .i64 50000), .raw (.int .i64 40000), .raw (.int .i64 6000), .raw (.int .i64 500), .raw (.bool false), .raw (.int .i64 30000), .raw (.int .i64 100000), .raw (.int .i64 6200), .raw (.int .i64 500), .raw (.bool true)] : List V) := by kernel_rfl
abbrev zq98 : Heap := [some (.cells (mix [false, false, false, false, true] [50000, 40000, 6000, 500, 0, 30000, 100000, 6200, 500, 1]) 74 .ro), some (.cells (ints [100, 0, 0]) 46 .ro)]
theorem grf_check (nm : ByteArray) (hnm : nm.size ≤ 100) (hE : M.lawnE nm [50000, 40000, 6000, 500, 0, 30000, 100000, 6200, 500, 1] [100, 0, 0] 2 1 100000 200000 5000 50000 100000 1200 1 1 = 0) : Meets cfx 0 18 [.agg [.raw (.string nm), .raw (.int .i64 100000), .raw (.int .i64 200000), .raw (.int .i64 5000), .slo 0 2, .raw (.int .i64 50000), .raw (.int .i64 100000), .raw (.int .i64 1200), .raw (.int .i64 1), .raw (.int .i64 1), .slo 1 1]] (zq98) (.raw (.int .i64 0)) (zq98) := by
  have h := lnCheck nm [50000, 40000, 6000, 500, 0, 30000, 100000, 6200, 500, 1] [100, 0, 0] 2 1 74 46 100000 200000 5000 50000 100000 1200 1 1 (by decide) (by decide) (by decide) (by decide) hnm
  rw [hE] at h
  exact h
abbrev zq66 : Heap := [some (.cells [.raw (.int .i64 50000), .raw (.int .i64 40000), .raw (.int .i64 6000), .raw (.int .i64 500), .raw (.bool false), .raw (.int .i64 30000), .raw (.int .i64 100000), .raw (.int .i64 6200), .raw (.int .i64 500), .raw (.bool true)] 74 .ro), some (.cells [.raw (.int .i64 100), .raw (.int .i64 0), .raw (.int .i64 0)] 46 .ro)]
theorem grf_Check (nm : ByteArray) (hnm : nm.size ≤ 100) (hE : M.lawnE nm [50000, 40000, 6000, 500, 0, 30000, 100000, 6200, 500, 1] [100, 0, 0] 2 1 100000 200000 5000 50000 100000 1200 1 1 = 0) : Meets cfx 0 18 [.agg [.raw (.string nm), .raw (.int .i64 100000), .raw (.int .i64 200000), .raw (.int .i64 5000), .slo 0 2, .raw (.int .i64 50000), .raw (.int .i64 100000), .raw (.int .i64 1200), .raw (.int .i64 1), .raw (.int .i64 1), .slo 1 1]] (zq66) (.raw (.int .i64 0)) (zq66) := by
  have h := grf_check nm hnm hE
  revert h; (try delta lwA lwC bkG bkI bkW bkP zq66 zq98); intro h
  rw [grf_mix, gr_ints] at h
  exact h
theorem grf_posts (nm : ByteArray) : Meets cfx 0 19 [.agg [.raw (.string nm), .raw (.int .i64 100000), .raw (.int .i64 200000), .raw (.int .i64 5000), .slo 0 2, .raw (.int .i64 50000), .raw (.int .i64 100000), .raw (.int .i64 1200), .raw (.int .i64 1), .raw (.int .i64 1), .slo 1 1]] (zq98) (.slo 2 5) [some (.cells (mix [false, false, false, false, true] [50000, 40000, 6000, 500, 0, 30000, 100000, 6200, 500, 1]) 74 .ro), some (.cells (ints [100, 0, 0]) 46 .ro), some (.cells (ints (M.rowP [50000, 40000, 6000, 500, 0, 30000, 100000, 6200, 500, 1] 2 50000 100000 1200)) 26 (.row 3))] :=
  lnPosts nm [50000, 40000, 6000, 500, 0, 30000, 100000, 6200, 500, 1] [100, 0, 0] 2 1 74 46 100000 200000 5000 50000 100000 1200 1 1 (by decide) (by decide) zk
theorem gr_On (nm : ByteArray) (hnm : nm.size ≤ 100) (hE : M.lawnE nm [50000, 40000, 6000, 500, 0, 30000, 100000, 6200, 500, 1] [100, 0, 0] 2 1 100000 200000 5000 50000 100000 1200 1 1 = 0) : Meets cfx 0 50 [.agg [.raw (.string nm), .raw (.int .i64 100000), .raw (.int .i64 200000), .raw (.int .i64 5000), .slo 0 2, .raw (.int .i64 50000), .raw (.int .i64 100000), .raw (.int .i64 1200), .raw (.int .i64 1), .raw (.int .i64 1), .slo 1 1], .raw (.agg #[.int .i64 5, .int .i64 5])] (zq66) (.raw (.tuple #[.bool true, .int .i64 0])) (zq66) := by
  have h := lnOn_ok nm [50000, 40000, 6000, 500, 0, 30000, 100000, 6200, 500, 1] [100, 0, 0] 2 1 74 46 100000 200000 5000 50000 100000 1200 1 1 0 (grf_check nm hnm hE) 5 5 rfl (by decide +kernel)
  revert h; (try delta lwA lwC bkG bkI bkW bkP zq66 zq98 zq109); intro h
  rw [grf_mix, gr_ints] at h
  exact h
abbrev zq64 : Heap := [some (.cells [.raw (.int .i64 50000), .raw (.int .i64 40000), .raw (.int .i64 6000), .raw (.int .i64 500), .raw (.bool false), .raw (.int .i64 30000), .raw (.int .i64 100000), .raw (.int .i64 6200), .raw (.int .i64 500), .raw (.bool true)] 74 .ro), some (.cells [.raw (.int .i64 100), .raw (.int .i64 0), .raw (.int .i64 0)] 46 .ro), some (.cells [] 26 .ro)]
theorem gr_May (nm : ByteArray) (hnm : nm.size ≤ 100) (hE : M.lawnE nm [50000, 40000, 6000, 500, 0, 30000, 100000, 6200, 500, 1] [100, 0, 0] 2 1 100000 200000 5000 50000 100000 1200 1 1 = 0) : Meets cfx 0 90 [.agg [.raw (.string nm), .raw (.int .i64 100000), .raw (.int .i64 200000), .raw (.int .i64 5000), .slo 0 2, .raw (.int .i64 50000), .raw (.int .i64 100000), .raw (.int .i64 1200), .raw (.int .i64 1), .raw (.int .i64 1), .slo 1 1], .raw (.agg #[.int .i64 30000, .int .i64 60000]), .raw (.int .i64 2946), .slo 2 0] (zq64) (.raw (.tuple #[.bool true, .int .i64 0])) (zq64) := by
  have h := lnMay_ok nm [50000, 40000, 6000, 500, 0, 30000, 100000, 6200, 500, 1] [100, 0, 0] 2 1 74 46 100000 200000 5000 50000 100000 1200 1 1 0 (grf_check nm hnm hE) [] 0 26 30000 60000 2946 (by decide) (by decide) rfl (by decide +kernel) (by decide +kernel) (by decide +kernel) (M.rowP [50000, 40000, 6000, 500, 0, 30000, 100000, 6200, 500, 1] 2 50000 100000 1200) 5 (grf_posts nm) (by decide) (by decide) (by decide) (by decide +kernel) (by decide +kernel) (by decide +kernel)
  revert h; (try delta lwA lwC bkG bkI bkW bkP zq109 zq98 zq64); intro h
  rw [show ((M.btw 30000 0 100000 && M.btw 60000 0 200000) && (!M.tchA (M.rowP [50000, 40000, 6000, 500, 0, 30000, 100000, 6200, 500, 1] 2 50000 100000 1200) 5 30000 60000 2946 && !M.tchA [] 0 30000 60000 2946)) = true by decide +kernel, grf_mix, gr_ints] at h
  exact h
theorem gr_Step : Ret cfx 52 [.raw (.agg #[.int .i64 450, .int .i64 2946]), .raw (.agg #[.int .i64 0, .int .i64 0, .int .i64 28800, .int .i64 0, .int .i64 0, .int .i64 0])] (.raw (.tuple #[.agg #[.int .i64 1, .int .i64 0, .int .i64 28800, .int .i64 0, .int .i64 0, .int .i64 0], .int .i64 0])) := by
  have h := tpStep 450 2946 0 0 28800 0 0 0
  refine Eq.mp (congrArg (Ret cfx 52 _) ?_) h
  kernel_rfl
theorem gr_Ball : Ret cfx 115 [.raw (.agg #[.int .i64 450, .int .i64 2946])] (.raw (.int .i64 0)) := by
  have h := tpBall 450 2946
  refine Eq.mp (congrArg (Ret cfx 115 _) ?_) h
  kernel_rfl
theorem gr_Bnc : Ret cfx 45 [.raw (.agg #[.int .i64 0, .int .i64 0])] (.raw (.int .i64 0)) := by
  have h := tpBnc 0 0
  refine Eq.mp (congrArg (Ret cfx 45 _) ?_) h
  kernel_rfl
theorem gr_Divide : Ret cfx 49 [.raw (.int .i64 7), .raw (.int .i64 2)] (.raw (.tuple #[.agg #[.int .i64 4, .int .i64 (-1)], .int .i64 0])) := by
  have h := tpDivide (n := 7) (d := 2) (by decide) (by decide) (by decide) (by decide)
  refine Eq.mp (congrArg (Ret cfx 49 _) ?_) h
  kernel_rfl
end Go.Proofs.YteefjegampdpoaaDoor
end
section
namespace Go.Proofs.YteefjegampdpoaaDoor.E2
open Go Go.RowKit
section
variable {F : Fence} {n : Nat} {P : Program} {Q Q' : Exit → Act → World → Prop}
theorem upon_exits (hq : ∀ x a w, x ≠ .normal → Q' x a w → Q x a w) {o : Oper} {a : Act} {w : World} {K : Act → World → Prop} (h : o.wpIn F n P a w K Q') : o.wpIn F n P a w K Q := by
  unfold Oper.wpIn at *
  refine ⟨h.1, ?_⟩
  have h := h.2
  generalize (o.semAt F.round a.eval).run P w = r at *
  cases r with
  | ok x w' =>
    cases x <;> simp only [Oper.uponIn] at h ⊢ <;>
      first
        | exact h
        | exact ⟨h.1, CallsIn.mono h.2 (fun e w'' he => by
            cases e with
            | returned v => exact he
            | panicked ch => exact hq _ _ _ (by simp) he
            | outgrown => exact ⟨he.choose, he.choose_spec.choose, hq _ _ _ (by simp) he.choose_spec.choose_spec⟩)⟩
        | exact ⟨h.1, RoundIn.mono h.2 (fun e w'' he => by
            cases e with
            | returned v => exact he
            | panicked ch => exact hq _ _ _ (by simp) he
            | outgrown => exact ⟨he.choose, he.choose_spec.choose, hq _ _ _ (by simp) he.choose_spec.choose_spec⟩)⟩
  | halt x w' => cases x <;> simp only [Oper.uponIn] at h ⊢ <;> first | exact h | exact hq _ _ _ (by simp) h
def thenOp (F : Fence) (n : Nat) (P : Program) (o : Oper) (Q : Exit → Act → World → Prop) : Exit → Act → World → Prop
  | .normal, a, w => o.wpIn F n P a w (fun a w => Q .normal a w) Q
  | x, a, w => Q x a w
theorem thenOp_exits {o : Oper} : ∀ x a w, x ≠ .normal → thenOp F n P o Q x a w → Q x a w := fun x a w hx h => by
  cases x <;> first | exact absurd rfl hx | exact h
theorem mem_ready {ops : Array Oper} {listed : Array Bool} {i : Nat} {o : Oper} (ho : ops[i]? = some o) (hl : listed[i]? = some false) (ha : ∀ e ∈ o.after, Region.binds .any e = true → listed[e.on]? = some true) : i ∈ Region.ready .any ops listed := by
  unfold Region.ready
  rw [List.mem_filter, List.mem_range]
  have hlt : i < ops.size := (Array.getElem?_eq_some_iff.1 ho).1
  refine ⟨hlt, ?_⟩
  rw [ho, Array.getD_eq_getD_getElem?, hl]
  simp only [Option.getD_some, Bool.not_false, Bool.true_and, Option.map_some]
  rw [Array.all_eq_true_iff_forall_mem]
  intro e he
  cases hb : Region.binds .any e with
  | false => rfl
  | true => rw [Array.getD_eq_getD_getElem?, ha e he hb]; rfl
variable {ops : Array Oper} {o : Oper}
theorem any_push (hg : ∀ (i : Nat) (oi : Oper), ops[i]? = some oi → oi.guard = none) (hog : o.guard = none) (back : ∀ (i : Nat) (o : Oper), ops[i]? = some o → ∀ e ∈ o.after, Region.binds .any e = true → e.on < i)
    (hw : ∀ i, i < ops.size → waitsB (ops.push o) ops.size i = true) (hlast : ∀ e ∈ o.after, Region.binds .any e = true → e.on < ops.size) :
    ∀ (fuel : Nat) (listed : Array Bool) (a : Act) (w : World), listed.size = ops.size → Closed (ops.push o) (up (listed.push false)) → wpAnyIn F n P .any ops (thenOp F n P o Q) fuel listed a w → wpAnyIn F n P .any (ops.push o) Q (fuel + 1) (listed.push false) a w := by
  have oLast : (ops.push o)[ops.size]? = some o := by simp
  have oOld : ∀ i, i < ops.size → (ops.push o)[i]? = ops[i]? := fun i hi => by rw [Array.getElem?_push]; simp [show ¬ i = ops.size by omega]
  have sz8 : (ops.push o).size = ops.size + 1 := by simp
  -- when all others have come up
  have fin : ∀ (fuel : Nat) (listed : Array Bool) (a : Act) (w : World), listed.size = ops.size → (∀ i, i < ops.size → listed[i]? = some true) → thenOp F n P o Q .normal a w → wpAnyIn F n P .any (ops.push o) Q (fuel + 1) (listed.push false) a w := fun fuel listed a w hsz hall hq => by
    have l7 : (listed.push false)[ops.size]? = some false := by rw [← hsz]; simp
    have lo : ∀ i, i < ops.size → (listed.push false)[i]? = some true := fun i hi => by rw [Array.getElem?_push]; simp [show ¬ i = listed.size by omega, hall i hi]
    have hin : ops.size ∈ Region.ready .any (ops.push o) (listed.push false) := mem_ready oLast l7 fun e he hb => lo _ (hlast e he hb)
    refine ⟨fun e => (by rw [e] at hin; cases hin), fun i hi => ?_⟩
    obtain ⟨oi, ho, hf, _⟩ := ready_spec (by simp [hsz]) hi
    have hi8 : i < ops.size + 1 := by rw [← sz8]; exact (Array.getElem?_eq_some_iff.1 ho).1
    have e7 : i = ops.size := by
      rcases Nat.lt_or_ge i ops.size with k | k
      · rw [lo i k] at hf; cases hf
      · omega
    subst e7
    unfold wpOpIn
    rw [oLast]
    simp only [Region.wanted, hog, if_true]
    refine Oper.wpIn_mono (fun a1 w1 h1 => ?_) hq
    have none : Region.ready .any (ops.push o) ((listed.push false).setIfInBounds ops.size true) = [] := by
      rcases hrd : Region.ready .any (ops.push o) ((listed.push false).setIfInBounds ops.size true) with _ | ⟨j, l⟩
      · rfl
      · exfalso
        obtain ⟨oj, hoj, hfj, _⟩ := ready_spec (ops := ops.push o) (listed := (listed.push false).setIfInBounds ops.size true) (by rw [Array.size_setIfInBounds, Array.size_push, Array.size_push, hsz]) (i := j) (by rw [hrd]; exact List.mem_cons_self)
        have hj8 : j < ops.size + 1 := by rw [← sz8]; exact (Array.getElem?_eq_some_iff.1 hoj).1
        rw [Array.getElem?_setIfInBounds] at hfj
        rcases Nat.lt_or_ge j ops.size with k | k
        · rw [if_neg (by omega), lo j k] at hfj; cases hfj
        · rw [if_pos (by omega)] at hfj
          split at hfj <;> cases hfj
    cases fuel with
    | zero => exact ⟨none, h1⟩
    | succ fuel => exact ⟨fun _ => h1, fun i hi => by rw [none] at hi; cases hi⟩
  intro fuel
  induction fuel with
  | zero =>
    intro listed a w hsz hC h
    exact fin 0 listed a w hsz (all_of_ready back hsz h.1) h.2
  | succ fuel ih =>
    intro listed a w hsz hC h
    rcases hrd : Region.ready .any ops listed with _ | ⟨j, l⟩
    · exact fin (fuel + 1) listed a w hsz (all_of_ready back hsz hrd) (h.1 hrd)
    have hj : j ∈ Region.ready .any ops listed := by rw [hrd]; exact List.mem_cons_self
    have low : ∀ i, i < ops.size → (listed.push false)[i]? = listed[i]? := fun i hi => by rw [Array.getElem?_push]; simp [show ¬ i = listed.size by omega]
    obtain ⟨oj, hoj, hfj, haj⟩ := ready_spec hsz hj
    have hjl : j < ops.size := (Array.getElem?_eq_some_iff.1 hoj).1
    have hj8 : j ∈ Region.ready .any (ops.push o) (listed.push false) := mem_ready (by rw [oOld j hjl]; exact hoj) (by rw [low j hjl]; exact hfj) fun e he hb => by
      have := back j oj hoj e he hb
      rw [low _ (by omega)]
      exact haj e he hb
    refine ⟨fun e => (by rw [e] at hj8; cases hj8), fun i hi => ?_⟩
    obtain ⟨oi, ho, hf, haf⟩ := ready_spec (by simp [hsz]) hi
    have hi8 : i < ops.size + 1 := by rw [← sz8]; exact (Array.getElem?_eq_some_iff.1 ho).1
    have W : ∀ k, waitsB (ops.push o) i k = true → up (listed.push false) k = true := fun k hk => by
      unfold waitsB waitsN at hk
      rw [ho] at hk
      obtain ⟨e, he, hb⟩ := List.any_eq_true.1 hk
      rw [Bool.and_eq_true, Bool.or_eq_true, beq_iff_eq] at hb
      have h1 : up (listed.push false) e.on = true := by simp [up, haf e (Array.mem_toList_iff.1 he) hb.1]
      rcases hb.2 with h2 | h2
      · rw [← h2]; exact h1
      · exact hC e.on k h1 (waitsN_mono 11 (ops.push o) e.on k h2)
    have hil : i < ops.size := by
      rcases Nat.lt_or_ge i ops.size with k | k
      · exact k
      · exfalso
        have e7 : i = ops.size := by omega
        subst e7
        have := W j (hw j hjl)
        unfold up at this
        rw [low j hjl, hfj] at this
        simp at this
    have hoi : ops[i]? = some oi := by rw [← oOld i hil]; exact ho
    have hir : i ∈ Region.ready .any ops listed := mem_ready hoi (by rw [← low i hil]; exact hf) fun e he hb => by
      have := back i oi hoi e he hb
      rw [← low _ (by omega)]
      exact haf e he hb
    have step := h.2 i hir
    unfold wpOpIn at step ⊢
    rw [hoi] at step
    rw [ho]
    simp only [Region.wanted, hg i oi hoi, if_true] at step ⊢
    have es : (listed.push false).setIfInBounds i true = (listed.setIfInBounds i true).push false := by
      apply Array.ext_getElem?
      intro k
      rw [Array.getElem?_setIfInBounds, Array.getElem?_push, Array.getElem?_push, Array.getElem?_setIfInBounds]
      simp only [Array.size_push, Array.size_setIfInBounds]
      by_cases hk : i = k
      · subst hk
        simp [show i < listed.size + 1 by omega, show ¬ i = listed.size by omega, show i < listed.size by omega]
      · simp [hk]
    have hf8 : (listed.push false)[i]? = some false := hf
    refine Oper.wpIn_mono (fun a1 w1 h1 => ?_) (upon_exits thenOp_exits step)
    rw [es]
    refine ih (listed.setIfInBounds i true) a1 w1 (by simp [hsz]) ?_ h1
    rw [← es]
    have hS' : up ((listed.push false).setIfInBounds i true) = fun k => up (listed.push false) k || k == i := funext (up_set hf8)
    intro x y hx hxy
    rw [hS'] at hx ⊢
    simp only [Bool.or_eq_true, beq_iff_eq] at hx ⊢
    rcases hx with hx | rfl
    · exact .inl (hC x y hx hxy)
    · exact .inl (W y hxy)
end
section
variable {c : Cfg} {cf : CF} {lim : Nat} {ops : Array Oper} {h : Heap} {t : List V}
theorem evDrawn_any {r : Option Nat} (hcf : CallOk c cf) (hfn : ∀ f, c.fns f = true → Callable c.P f) (hL : c.L ≤ lim) (hlh : lim ≤ h.length) {Q : Exit → Act → World → Prop}
    {ans : List Ans} {q : ROut} {ρ : Ren} {a : Act} {w : World} (he : evDrawn c cf lim ops t h ans = some q) (hc : ∀ p ∈ q.cons, p) (RH : RelH c ρ h w) (RT : RelT ρ h.length t a)
    (hQ : ∀ ρ' a' w', ρ'.unk = ρ.unk → a'.defers = a.defers → RelT ρ' q.h.length q.t a' → RelH c ρ' q.h w' → Fr lim h.length ρ h w ρ' q.h w' → Q .normal a' w') :
    (∀ (i : Nat) (o : Oper), ops[i]? = some o → ∀ e ∈ o.after, Region.binds .any e = true → e.on < i) ∧ wpAnyIn (FW r) 0 c.P .any ops Q ops.size (Array.replicate ops.size false) a w.drew := by
  unfold evDrawn at he
  split at he
  · rename_i olds0 ans0
    split at he
    · rename_i hs
      split at he
      · rename_i d hd
        simp only [Option.some.injEq] at he
        subst he
        have H := told_of hd hc hs
        have RHd : RelH c ρ h w.drew := ⟨fun i B hi => (RH.cell i B hi).move (RH.sco i B hi) (fun _ _ => rfl) (fun _ => rfl), RH.inj, RH.sco, RH.glob, RH.big, RH.base⟩
        refine ⟨H.back, wpAny_told (ρ0 := ρ) (a0 := a) hcf hfn H hL hlh RHd RT (fun ρ' a' w' I => ?_) _ _ _ _ ρ (by simp) ?_ ?_ (by simp [left])⟩
        · refine hQ ρ' a' w' I.unk I.defers (by rw [effs_len]; exact I.T) I.H ?_
          have F := I.F
          exact ⟨F.os, F.tape, F.output, F.size, F.blk, F.ren, F.len, F.fresh, F.dead⟩
        · intro i j hi _
          simp only [up, Array.getElem?_replicate] at hi
          split at hi <;> simp at hi
        · have no : ∀ k, up (Array.replicate ops.size false) k = false := fun k => by
            simp only [up, Array.getElem?_replicate]
            split <;> simp
          have gen : ∀ (l : List DIt) (j : Nat) (A : Heap) (ρ0 : Ren), RelH c ρ0 A w.drew → RelH c ρ0 (effs (up (Array.replicate ops.size false)) j l A) w.drew ∧ ∀ (e : Nat) (B : Blk), (effs (up (Array.replicate ops.size false)) j l A)[e]? = some (some B) → A[e]? = some (some B) := by
            intro l
            induction l with
            | nil => intro j A ρ0 hA; exact ⟨hA, fun _ _ h => h⟩
            | cons it l ih =>
              intro j A ρ0 hA
              have e0 : effs (up (Array.replicate ops.size false)) j (it :: l) A = effs (up (Array.replicate ops.size false)) (j + 1) l (effNo it A) := by
                show effs _ (j + 1) l (if up (Array.replicate ops.size false) j = true then effOne it A else effNo it A) = _
                rw [no]; rfl
              rw [e0]
              have back : ∀ {e : Nat} {B : Blk}, (effNo it A)[e]? = some (some B) → A[e]? = some (some B) := fun {e B} hB => by
                rcases Nat.lt_or_ge e A.length with hlt | hge
                · rwa [show effNo it A = A ++ _ from rfl, List.getElem?_append_left hlt] at hB
                · rw [show effNo it A = A ++ _ from rfl, List.getElem?_append_right hge, List.getElem?_map] at hB
                  cases hx : it.nw[e - A.length]? with
                  | none => rw [hx] at hB; cases hB
                  | some x => rw [hx] at hB; cases hB
              have hA' : RelH c ρ0 (effNo it A) w.drew := by
                refine ⟨fun e B hB => hA.cell e B (back hB), fun x y hx hy e => ?_, fun e B hB => Blk.under_mono (by rw [effNo_len]; omega) _ (hA.sco e B (back hB)), fun p hp => ?_, by rw [effNo_len]; have := hA.big; omega, fun e he => ?_⟩
                · obtain ⟨B, x1, x2⟩ := hx
                  obtain ⟨C, y1, y2⟩ := hy
                  exact hA.inj x y ⟨B, back x1, x2⟩ ⟨C, back y1, y2⟩ e
                · obtain ⟨g1, g2, g3⟩ := hA.glob p hp
                  exact ⟨g1, g2, by rw [effNo_len]; omega⟩
                · have := hA.big
                  rw [show effNo it A = A ++ _ from rfl, List.getElem?_append_left (by omega)]
                  exact hA.base e he
              obtain ⟨i1, i2⟩ := ih (j + 1) (effNo it A) ρ0 hA'
              exact ⟨i1, fun e B hB => back (i2 e B hB)⟩
          obtain ⟨G1, G2⟩ := gen d.its 0 h ρ RHd
          have hsl : slotsAt ops (up (Array.replicate ops.size false)) 0 d.its t = t := by
            apply List.ext_getElem?
            intro s
            exact slotsAt_un d.its 0 t fun k _ hk => by rw [no] at hk; cases hk
          refine ⟨rfl, rfl, ?_, G1, ?_⟩
          · rw [hsl]
            exact ⟨RT.tmps, fun x hx => V.slotOk_mono (grown_ge _ _) x (RT.sco x hx)⟩
          · refine ⟨rfl, rfl, rfl, Nat.le_refl _, fun _ _ _ => rfl, fun _ _ => rfl, by rw [effs_len]; exact grown_ge _ _, fun e h1 h2 => ?_, fun e _ h2 => ?_⟩
            · obtain ⟨B, x1, x2⟩ := h2
              have := lt_len (G2 e B x1)
              omega
            · obtain ⟨B, x1, x2⟩ := h2
              exact ⟨B, G2 e B x1, x2⟩
      · cases he
    · cases he
  · cases he
def opsOf : Code → Array Oper
  | .region _ ops _ => ops
  | _ => #[]
theorem body_push (hmx : c.P.follows .mixedOrders = true) (hfn : ∀ f, c.fns f = true → Callable c.P f) (hL : c.L ≤ lim) {rnd : Option Nat} {fi k n n0 id : Nat} {o : Oper} {T T' : List V} {H H' : Heap} {ans : List Ans} {cons : List Prop} {code : Code}
    (hcode : code = .region id (ops.push o) true)
    (hck : (ops.all (fun x => x.guard.isNone) && o.guard.isNone && ((List.range ops.size).all fun i => waitsB (ops.push o) ops.size i) && (o.after.all fun e => !Region.binds .any e || decide (e.on < ops.size))) = true)
    (he : (evCode c ⟨evFunc c n, evYlds c (evFunc c n) 3⟩ lim rnd fi (.seq (.region 0 ops true) (.region 0 #[o] false)) k T H ans).map (fun r => (r.e, r.t, r.h, r.cons)) = some (.normal, T', H', cons)) (hp : Paid cons)
    (hln : lim ≤ n0) (hnl : n0 ≤ H.length) : Runs c lim n0 rnd code T H .normal T' H' := by
  subst hcode
  simp only [Bool.and_eq_true] at hck
  obtain ⟨⟨⟨c1, c2⟩, c3⟩, c4⟩ := hck
  have hcf := evYlds_sound hmx hfn (evFunc_sound hmx hfn n) 3
  rw [Option.map_eq_some_iff] at he
  obtain ⟨r, h1, h2⟩ := he
  simp only [Prod.mk.injEq] at h2
  obtain ⟨e1, rfl, rfl, rfl⟩ := h2
  have hall := hp.all
  simp only [evCode] at h1
  cases hd : evDrawn c ⟨evFunc c n, evYlds c (evFunc c n) 3⟩ lim ops T H ans with
  | none => rw [hd] at h1; simp at h1
  | some q1 =>
    rw [hd] at h1
    simp only at h1
    cases ho : evOps c ⟨evFunc c n, evYlds c (evFunc c n) 3⟩ lim #[o] #[o].toList q1.t q1.h q1.ans with
    | none => rw [ho] at h1; simp at h1
    | some q2 =>
      rw [ho] at h1
      simp only [Option.some.injEq] at h1
      subst h1
      simp only at hall
      refine Runs.fewer (n := H.length) ?_ hnl hln
      intro ρ a w RT RH
      have hlh : lim ≤ H.length := Nat.le_trans hln hnl
      have A := evDrawn_any (r := rndOf ρ rnd) (Q := thenOp (FW (rndOf ρ rnd)) 0 c.P o (fun x a' w' => x = Ex.normal.to ∧ ∃ ρ' ms, a'.defers = ms ++ a.defers ∧ Marks w w' ms ∧ RelT ρ' q2.h.length q2.t a' ∧ RelH c ρ' q2.h w' ∧ Fr lim H.length ρ H w ρ' q2.h w')) hcf hfn hL hlh hd (fun p hq => hall p (List.mem_append_left _ hq)) RH RT (fun ρ1 a1 w1 u1 d1 T1 H1 F1 => ?_)
      · refine wpIn_region_any hmx ?_
        have B := any_push (o := o) (fun i oi hi => by
            have := Array.all_eq_true_iff_forall_mem.1 c1 oi (Array.mem_of_getElem? hi)
            simpa using this) (by simpa using c2) A.1 (fun i hi => List.all_eq_true.1 c3 i (List.mem_range.2 hi)) (fun e he hb => by
            have := Array.all_eq_true_iff_forall_mem.1 c4 e he
            simpa [hb] using this) ops.size (Array.replicate ops.size false) a w.drew (by simp) (fun i j hi _ => by
            exfalso
            have : (Array.replicate ops.size false).push false = Array.replicate (ops.size + 1) false := by simp [Array.replicate_succ]
            rw [this] at hi
            simp only [up, Array.getElem?_replicate] at hi
            split at hi <;> simp at hi) A.2
        have e2 : (ops.push o).size = ops.size + 1 := by simp
        rw [e2, Array.replicate_succ]
        exact B
      · show o.wpIn _ _ _ a1 w1 _ _
        have S := evOps_sound (r := rndOf ρ rnd) hcf hfn hL (ops := #[o]) (Q := fun x a' w' => x = Ex.normal.to ∧ ∃ ρ' ms, a'.defers = ms ++ a.defers ∧ Marks w w' ms ∧ RelT ρ' q2.h.length q2.t a' ∧ RelH c ρ' q2.h w' ∧ Fr lim H.length ρ H w ρ' q2.h w') #[o].toList q1.t q1.h q1.ans q2 ρ1 a1 w1 ho (fun p hq => hall p (List.mem_append_right _ hq)) (Nat.le_trans hlh F1.len) H1 T1 (fun ρ2 a2 w2 u2 d2 T2 H2 F2 => ⟨rfl, ρ2, [], by rw [List.nil_append, d2, d1], Marks.nil, T2, H2, F1.trans (F2.fewer F1.len (Nat.le_trans hlh (Nat.le_refl _)))⟩)
        unfold wpListIn at S
        simp only [Region.wanted, show o.guard = none by simpa using c2, if_true] at S
        exact S
theorem Runs.block {n id : Nat} {rnd : Option Nat} {x : Code} {t t' : List V} {h h' : Heap} (hr : Runs c lim n rnd x t h .normal t' h') : Runs c lim n rnd (.block id x) t h .normal t' h' := fun ρ a w RT RH =>
  wpIn_block (wpIn_mono (hr ρ a w RT RH) fun y a' w' ⟨hy, k⟩ => by subst hy; exact ⟨rfl, k⟩)
def sl : Code → Code
  | .seq x _ => x
  | _ => .skip
def sr : Code → Code
  | .seq _ y => y
  | _ => .skip
def bi : Code → Nat
  | .block i _ => i
  | _ => 0
def bl : Code → Code
  | .block _ x => x
  | _ => .skip
end
end Go.Proofs.YteefjegampdpoaaDoor.E2
end
section
namespace Go.Proofs.YteefjegampdpoaaDoor
open Go Go.RowKit Go.Proofs.YteefjegampdpoaaDoor.E2
abbrev zq122 : List V := [V.raw (Value.string { data := #[(103 : UInt8), (114 : UInt8), (101 : UInt8), (101 : UInt8), (110 : UInt8)] }), iV 100000, iV 200000, iV 5000, .slo 12 2, iV 50000, iV 100000, iV 1200, iV 1, iV 1, .slo 13 1, V.raw (Value.slice none 0 0), iV 0, iV 0]
abbrev zq124 : List V := [V.raw (Value.string { data := #[(103 : UInt8), (114 : UInt8), (101 : UInt8), (101 : UInt8), (110 : UInt8)] }), iV 100000, iV 200000, iV 5000, .slo 12 2, iV 50000, iV 100000, iV 1200, iV 1, iV 1, .slo 13 1]
abbrev zq26 : List V := (catV [iV 100, iV 0, .slo 7 1, pV 0 0, uV, uV, uV, .ptr 8 0, .ptr 9 0, .ptr 10 0, V.raw (.bool false), .ptr 14 0, V.raw (Value.slice none 0 0), V.raw (Value.slice none 0 0), iV 0, uV, uV, uV, uV, uV, iV 100, iV 0, V.agg (zq124), pV 0 0, V.agg (zq122)] (repU 72 []))
def wst_T0 (TC : Nat) : List V := (zq26)
abbrev zq125 : List V := [V.raw (Value.string { data := #[(103 : UInt8), (114 : UInt8), (101 : UInt8), (101 : UInt8), (110 : UInt8)] }), iV 100000, iV 200000, iV 5000, .slo 3 2, iV 50000, iV 100000, iV 1200, iV 1, iV 1, .slo 4 1]
abbrev zq126 : List V := [V.raw (Value.string { data := #[] }), iV 0, iV 0, iV 0, V.raw (Value.slice none 0 0), iV 0, iV 0, iV 0, iV 0, iV 0, V.raw (Value.slice none 0 0), V.raw (Value.slice none 0 0), iV 0, iV 0]
abbrev zq128 : List V := [iV 50000, iV 40000, iV 6000, iV 500, V.raw (.bool false), iV 30000, iV 100000, iV 6200, iV 500, V.raw (.bool true)]
abbrev zq129 : List V := [V.raw (Value.slice none 0 0), V.raw (Value.slice none 0 0), iV 0, iV 0, iV 0]
abbrev zq130 : List V := [V.raw (Value.int IntKind.u16 20000), V.raw (Value.int IntKind.u16 20000)]
abbrev zq20 (TC : Nat) : Heap := [some (.cells (zq120) TC .ro), some (.cells [iV 4, iV (-1)] 129 .rw), some (.cells (zq125) 29 .rw), some (.cells (zq128) 74 (.row 5)), some (.cells [iV 100, iV 0, iV 0] 46 (.row 3)), some (.cells [iV 450, iV 2946] 65 .rw), some (.cells [iV 1, iV 0, iV 28800, iV 0, iV 0, iV 0] 62 .rw), some (.cells (zq130) 60 (.row 2)), some (.cells [iV 0, iV 0] 56 .rw), some (.cells (zq126) 138 .rw), some (.cells (zq129) 141 .rw), some (.cells (zq124) 29 .rw), some (.cells (zq128) 74 (.row 5)), some (.cells [iV 100, iV 0, iV 0] 46 (.row 3)), some (.cells (zq122) 138 .rw)]
def wst_H0 (TC : Nat) : Heap := (zq20 TC)
abbrev zq73 : List V := (zq122)
abbrev zq85 : List V := (zq124)
def wst_T1 (TC : Nat) : List V := (catV [iV 100, iV 0, .slo 7 1, pV 0 0, uV, uV, uV, .ptr 8 0, .ptr 9 0, .ptr 10 0, V.raw (.bool false), .ptr 14 0, V.raw (Value.slice none 0 0), V.raw (Value.slice none 0 0), iV 0, uV, uV, uV, uV, uV, iV 100, iV 0, V.agg (zq85), pV 0 0, V.agg (zq73), iV 0, .slo 7 1, iV 1, V.raw (.bool true)] (repU 68 []))
def wst_H1 (TC : Nat) : Heap := (zq20 TC)
theorem wst_1 (TC : Nat) : Runs cfxg 0 15 none (sl (loopOf cfxg.P 53 0)) (wst_T0 TC) (wst_H0 TC) (Ex.normal) (wst_T1 TC) (wst_H1 TC) :=
  body_of cfxg_mixed cfxg_call zz (rnd := none) (fi := 0) (k := 0) (n := 40) (n0 := 15) (ans := [zT]) (cons := [zY]) zk
    ⟨rfl, trivial⟩ zb zb noRnd (noRanges zk)
def wst_T2 (TC : Nat) : List V := (catV [iV 100, iV 0, .slo 7 1, pV 0 0, uV, uV, uV, .ptr 8 0, .ptr 9 0, .ptr 10 0, V.raw (.bool false), .ptr 14 0, V.raw (Value.slice none 0 0), V.raw (Value.slice none 0 0), iV 0, .ptr 17 0, uV, uV, uV, uV, iV 100, iV 0, V.agg (zq85), pV 0 0, V.agg (zq73), iV 0, .slo 7 1, iV 1, V.raw (.bool true), uV, uV, .slo 7 1, iV 0, .ptr 7 0, V.raw (.agg { toList := [Value.int IntKind.u16 20000, Value.int IntKind.u16 20000] }), pV 30000 60000] (repU 61 []))
abbrev zq86 : List V := (zq125)
abbrev zq93 : List V := (zq126)
abbrev zq104 : List V := (zq128)
abbrev zq115 : List V := (zq129)
abbrev zq116 : List V := (zq130)
def wst_H2 (TC : Nat) : Heap := [some (.cells (zq68) TC .ro), some (.cells [iV 4, iV (-1)] 129 .rw), some (.cells (zq86) 29 .rw), some (.cells (zq104) 74 (.row 5)), some (.cells [iV 100, iV 0, iV 0] 46 (.row 3)), some (.cells [iV 450, iV 2946] 65 .rw), some (.cells [iV 1, iV 0, iV 28800, iV 0, iV 0, iV 0] 62 .rw), some (.cells (zq116) 60 (.row 2)), some (.cells [iV 0, iV 0] 56 .rw), some (.cells (zq93) 138 .rw), some (.cells (zq115) 141 .rw), some (.cells (zq85) 29 .rw), some (.cells (zq104) 74 (.row 5)), some (.cells [iV 100, iV 0, iV 0] 46 (.row 3)), some (.cells (zq73) 138 .rw), some (.cells (zq116) 60 .rw), bkP 30000 60000, bkP 30000 60000]
theorem wst_2 (TC : Nat) : Runs cfxg 0 15 none (sl (bl (sl (sr (loopOf cfxg.P 53 0))))) (wst_T1 TC) (wst_H1 TC) (Ex.normal) (wst_T2 TC) (wst_H2 TC) :=
  body_of cfxg_mixed cfxg_call zz (rnd := none) (fi := 0) (k := 0) (n := 40) (n0 := 15) (ans := [Ans.go]) (cons := [((0 : Int) ≤ (0 : Int) ∧ (0 : Int) < (1 : Int)), (inR IntKind.i64 20000), (inR IntKind.i64 60000), ((2 : Int) ≠ (0 : Int)), (inR IntKind.i64 30000), (inR IntKind.i64 20000), (inR IntKind.i64 60000)]) zk
    ⟨zo, inR_i64 zo zo, inR_i64 zo zo, zds, inR_i64 zo zo, inR_i64 zo zo, inR_i64 zo zo, trivial⟩ zb zb noRnd (noRanges zk)
def wst_T3 (TC : Nat) : List V := (catV [iV 100, iV 0, .slo 7 1, pV 0 0, uV, uV, uV, .ptr 8 0, .ptr 9 0, .ptr 10 0, V.raw (.bool false), .ptr 14 0, V.raw (Value.slice none 0 0), V.raw (Value.slice none 0 0), iV 0, .ptr 17 0, V.raw (.bool true), iV 0, uV, uV, iV 100, iV 0, V.agg (zq85), pV 0 0, V.agg (zq73), iV 0, .slo 7 1, iV 1, V.raw (.bool true), uV, uV, .slo 7 1, iV 0, .ptr 7 0, V.raw (.agg { toList := [Value.int IntKind.u16 20000, Value.int IntKind.u16 20000] }), pV 30000 60000, V.raw (.tuple { toList := [.bool true, .int .i64 0] }), .ptr 14 0, V.agg (zq85), pV 30000 60000, pV 450 2946, iV 2946, V.raw (Value.slice none 0 0), V.raw (.tuple { toList := [.bool true, .int .i64 0] }), V.raw (.bool true), iV 0] (repU 51 []))
abbrev zq7 (TC : Nat) : Heap := [some (.cells (zq120) TC .ro), some (.cells [iV 4, iV (-1)] 129 .rw), some (.cells (zq125) 29 .rw), some (.cells (zq128) 74 (.row 5)), some (.cells [iV 100, iV 0, iV 0] 46 (.row 3)), some (.cells [iV 450, iV 2946] 65 .rw), some (.cells [iV 1, iV 0, iV 28800, iV 0, iV 0, iV 0] 62 .rw), some (.cells (zq130) 60 (.row 2)), some (.cells [iV 0, iV 0] 56 .rw), some (.cells (zq126) 138 .rw), some (.cells (zq129) 141 .rw), some (.cells (zq124) 29 .rw), some (.cells (zq128) 74 (.row 5)), some (.cells [iV 100, iV 0, iV 0] 46 (.row 3)), some (.cells (zq122) 138 .rw), some (.cells (zq130) 60 .rw), bkP 30000 60000, bkP 30000 60000, some (.cells [iV 450, iV 2946] 65 .rw)]
def wst_H3 (TC : Nat) : Heap := (zq7 TC)
abbrev zq9 (TC : Nat) : Heap := [some (.cells (zq120) TC .ro), some (.cells [iV 4, iV (-1)] 129 .ro), some (.cells (zq125) 29 .ro), some (.cells (zq128) 74 .ro), some (.cells [iV 100, iV 0, iV 0] 46 .ro), some (.cells [iV 450, iV 2946] 65 .ro), some (.cells [iV 1, iV 0, iV 28800, iV 0, iV 0, iV 0] 62 .ro), some (.cells (zq130) 60 .ro), some (.cells [iV 0, iV 0] 56 .ro), some (.cells (zq126) 138 .ro), some (.cells (zq129) 141 .ro), some (.cells (zq124) 29 .ro), some (.cells (zq128) 74 .ro), some (.cells [iV 100, iV 0, iV 0] 46 .ro), some (.cells (zq122) 138 .ro), some (.cells (zq130) 60 .ro), some (.cells [iV 30000, iV 60000] 24 .ro), some (.cells [iV 30000, iV 60000] 24 .ro), some (.cells [iV 450, iV 2946] 65 .ro)]
theorem wst_3 (TC : Nat) : Runs cfxg 0 15 none (sl (sr (bl (sl (sr (loopOf cfxg.P 53 0)))))) (wst_T2 TC) (wst_H2 TC) (Ex.normal) (wst_T3 TC) (wst_H3 TC) :=
  body_of cfxg_mixed cfxg_call zz (rnd := none) (fi := 0) (k := 0) (n := 40) (n0 := 15) (ans := [Ans.olds [], Ans.go, Ans.reth (V.raw (.tuple { toList := [.bool true, .int .i64 0] })) (zq9 TC)]) (cons := [(Meets cfxg 0 90 [V.agg (zq85), pV 30000 60000, iV 2946, V.raw (Value.slice none 0 0)] (zq9 TC) (V.raw (.tuple { toList := [.bool true, .int .i64 0] })) (zq9 TC))]) zk
    ⟨(by exact up_meets (below_ro (lim := 0) (N := []) rfl rfl (fun k => if k = 0 then 12 else if k = 1 then 13 else 0) (fun k => k == 2) (gr_May _ (Nat.le_of_ble_eq_true zk) zk) ⟨⟨_, _, rfl, rfl, .inl ⟨rfl, _, rfl⟩⟩, ⟨_, _, rfl, rfl, .inl ⟨rfl, _, rfl⟩⟩, ⟨_, _, rfl, rfl, .inr ⟨rfl, rfl⟩⟩, trivial⟩ (fun k hk => by have hk2 : 3 ≤ k := hk; simp; omega) rfl rfl rfl zn zz) (by simp)), trivial⟩ zb zb noRnd (noRanges zk)
def wst_T4 (TC : Nat) : List V := (catV [iV 100, iV 0, .slo 7 1, pV 0 0, uV, uV, uV, .ptr 8 0, .ptr 9 0, .ptr 10 0, V.raw (.bool false), .ptr 14 0, V.raw (Value.slice none 0 0), V.raw (Value.slice none 0 0), iV 0, .ptr 17 0, V.raw (.bool true), iV 0, uV, uV, iV 100, iV 0, V.agg (zq85), pV 0 0, V.agg (zq73), iV 0, .slo 7 1, iV 1, V.raw (.bool true), uV, uV, .slo 7 1, iV 0, .ptr 7 0, V.raw (.agg { toList := [Value.int IntKind.u16 20000, Value.int IntKind.u16 20000] }), pV 30000 60000, V.raw (.tuple { toList := [.bool true, .int .i64 0] }), .ptr 14 0, V.agg (zq85), pV 30000 60000, pV 450 2946, iV 2946, V.raw (Value.slice none 0 0), V.raw (.tuple { toList := [.bool true, .int .i64 0] }), V.raw (.bool true), iV 0, iV 0, V.raw (.bool false), V.lit false, V.raw (.bool true), V.raw (.bool false), V.raw (.bool false)] (repU 45 []))
def wst_H4 (TC : Nat) : Heap := (zq7 TC)
theorem wst_4 (TC : Nat) : Runs cfxg 0 15 none (sl (sr (sr (bl (sl (sr (loopOf cfxg.P 53 0))))))) (wst_T3 TC) (wst_H3 TC) (Ex.normal) (wst_T4 TC) (wst_H4 TC) :=
  body_of cfxg_mixed cfxg_call zz (rnd := none) (fi := 0) (k := 0) (n := 40) (n0 := 15) (ans := [zF, zF, zF]) (cons := [zN, zN, zN]) zk
    ⟨rfl, rfl, rfl, trivial⟩ zb zb noRnd (noRanges zk)
def wst_T5 (TC : Nat) : List V := (catV [iV 100, iV 0, .slo 7 1, pV 0 0, uV, uV, uV, .ptr 8 0, .ptr 9 0, .ptr 10 0, V.raw (.bool false), .ptr 14 0, V.raw (Value.slice none 0 0), V.raw (Value.slice none 0 0), iV 0, .ptr 17 0, V.raw (.bool true), iV 0, uV, uV, iV 100, iV 0, V.agg (zq85), pV 0 0, V.agg (zq73), iV 0, .slo 7 1, iV 1, V.raw (.bool true), uV, uV, .slo 7 1, iV 0, .ptr 7 0, V.raw (.agg { toList := [Value.int IntKind.u16 20000, Value.int IntKind.u16 20000] }), pV 30000 60000, V.raw (.tuple { toList := [.bool true, .int .i64 0] }), .ptr 14 0, V.agg (zq85), pV 30000 60000, pV 450 2946, iV 2946, V.raw (Value.slice none 0 0), V.raw (.tuple { toList := [.bool true, .int .i64 0] }), V.raw (.bool true), iV 0, iV 0, V.raw (.bool false), V.lit false, V.raw (.bool true), V.raw (.bool false), V.raw (.bool false), uV, uV, .ptr 14 11, V.raw (Value.slice none 0 0), pV 450 2946, .slo 20 1, .slo 21 1, .ptr 14 11] (repU 37 []))
abbrev zq123 : List V := [V.raw (Value.string { data := #[(103 : UInt8), (114 : UInt8), (101 : UInt8), (101 : UInt8), (110 : UInt8)] }), iV 100000, iV 200000, iV 5000, .slo 12 2, iV 50000, iV 100000, iV 1200, iV 1, iV 1, .slo 13 1, .slo 21 1, iV 0, iV 0]
abbrev zq77 : List V := (zq123)
def wst_H5 (TC : Nat) : Heap := [some (.cells (zq68) TC .ro), some (.cells [iV 4, iV (-1)] 129 .rw), some (.cells (zq86) 29 .rw), some (.cells (zq104) 74 (.row 5)), some (.cells [iV 100, iV 0, iV 0] 46 (.row 3)), some (.cells [iV 450, iV 2946] 65 .rw), some (.cells [iV 1, iV 0, iV 28800, iV 0, iV 0, iV 0] 62 .rw), some (.cells (zq116) 60 (.row 2)), some (.cells [iV 0, iV 0] 56 .rw), some (.cells (zq93) 138 .rw), some (.cells (zq115) 141 .rw), some (.cells (zq85) 29 .rw), some (.cells (zq104) 74 (.row 5)), some (.cells [iV 100, iV 0, iV 0] 46 (.row 3)), some (.cells (zq77) 138 .rw), some (.cells (zq116) 60 .rw), bkP 30000 60000, bkP 30000 60000, some (.cells [iV 450, iV 2946] 65 .rw), some (.cells [iV 450, iV 2946] 65 .rw), some (.cells [iV 450, iV 2946] 65 (.row 2)), some (.cells [iV 450, iV 2946] 65 (.row 2))]
theorem wst_5 (TC : Nat) : Runs cfxg 0 15 none (sl (sr (sr (sr (bl (sl (sr (loopOf cfxg.P 53 0)))))))) (wst_T4 TC) (wst_H4 TC) (Ex.normal) (wst_T5 TC) (wst_H5 TC) :=
  body_of cfxg_mixed cfxg_call zz (rnd := none) (fi := 0) (k := 0) (n := 40) (n0 := 15) (ans := [Ans.olds [(6, 28)], Ans.go]) (cons := [(1 ≤ 9223372036854775807), (2 ≤ 2), zY, (1 ≤ 9223372036854775807 ∧ 16 ≤ 140737488355328)]) zk
    ⟨zds, zds, rfl, zds, trivial⟩ zb zb noRnd (noRanges zk)
def wst_T6 (TC : Nat) : List V := (catV [iV 100, iV 0, .slo 7 1, pV 0 0, uV, uV, uV, .ptr 8 0, .ptr 9 0, .ptr 10 0, V.raw (.bool false), .ptr 14 0, .slo 23 1, V.raw (Value.slice none 0 0), iV 0, .ptr 17 0, V.raw (.bool true), iV 0, uV, uV, iV 100, iV 0, V.agg (zq85), pV 0 0, V.agg (zq73), iV 0, .slo 7 1, iV 1, V.raw (.bool true), uV, uV, .slo 7 1, iV 0, .ptr 7 0, V.raw (.agg { toList := [Value.int IntKind.u16 20000, Value.int IntKind.u16 20000] }), pV 30000 60000, V.raw (.tuple { toList := [.bool true, .int .i64 0] }), .ptr 14 0, V.agg (zq85), pV 30000 60000, pV 450 2946, iV 2946, V.raw (Value.slice none 0 0), V.raw (.tuple { toList := [.bool true, .int .i64 0] }), V.raw (.bool true), iV 0, iV 0, V.raw (.bool false), V.lit false, V.raw (.bool true), V.raw (.bool false), V.raw (.bool false), uV, uV, .ptr 14 11, V.raw (Value.slice none 0 0), pV 450 2946, .slo 20 1, .slo 21 1, .ptr 14 11, V.raw (Value.slice none 0 0), pV 30000 60000, .slo 22 1, .slo 23 1] (repU 33 []))
def wst_H6 (TC : Nat) : Heap := [some (.cells (zq68) TC .ro), some (.cells [iV 4, iV (-1)] 129 .rw), some (.cells (zq86) 29 .rw), some (.cells (zq104) 74 (.row 5)), some (.cells [iV 100, iV 0, iV 0] 46 (.row 3)), some (.cells [iV 450, iV 2946] 65 .rw), some (.cells [iV 1, iV 0, iV 28800, iV 0, iV 0, iV 0] 62 .rw), some (.cells (zq116) 60 (.row 2)), some (.cells [iV 0, iV 0] 56 .rw), some (.cells (zq93) 138 .rw), some (.cells (zq115) 141 .rw), some (.cells (zq85) 29 .rw), some (.cells (zq104) 74 (.row 5)), some (.cells [iV 100, iV 0, iV 0] 46 (.row 3)), some (.cells (zq77) 138 .rw), some (.cells (zq116) 60 .rw), bkP 30000 60000, bkP 30000 60000, some (.cells [iV 450, iV 2946] 65 .rw), some (.cells [iV 450, iV 2946] 65 .rw), some (.cells [iV 450, iV 2946] 65 (.row 2)), some (.cells [iV 450, iV 2946] 65 (.row 2)), some (.cells [iV 30000, iV 60000] 24 (.row 2)), some (.cells [iV 30000, iV 60000] 24 (.row 2))]
theorem wst_6 (TC : Nat) : Runs cfxg 0 15 none (sl (sr (sr (sr (sr (bl (sl (sr (loopOf cfxg.P 53 0))))))))) (wst_T5 TC) (wst_H5 TC) (Ex.normal) (wst_T6 TC) (wst_H6 TC) :=
  body_of cfxg_mixed cfxg_call zz (rnd := none) (fi := 0) (k := 0) (n := 40) (n0 := 15) (ans := []) (cons := [(1 ≤ 9223372036854775807), (2 ≤ 2), zY, (1 ≤ 9223372036854775807 ∧ 16 ≤ 140737488355328)]) zk
    ⟨zds, zds, rfl, zds, trivial⟩ zb zb noRnd (noRanges zk)
def wst_T7 (TC : Nat) : List V := (catV [iV 100, iV 0, .slo 7 1, pV 0 0, uV, uV, uV, .ptr 8 0, .ptr 9 0, .ptr 10 0, V.raw (.bool false), .ptr 14 0, .slo 23 1, .slo 26 1, iV 0, .ptr 17 0, V.raw (.bool true), iV 0, uV, uV, iV 100, iV 0, V.agg (zq85), pV 0 0, V.agg (zq73), iV 0, .slo 7 1, iV 1, V.raw (.bool true), uV, uV, .slo 7 1, iV 0, .ptr 7 0, V.raw (.agg { toList := [Value.int IntKind.u16 20000, Value.int IntKind.u16 20000] }), pV 30000 60000, V.raw (.tuple { toList := [.bool true, .int .i64 0] }), .ptr 14 0, V.agg (zq85), pV 30000 60000, pV 450 2946, iV 2946, V.raw (Value.slice none 0 0), V.raw (.tuple { toList := [.bool true, .int .i64 0] }), V.raw (.bool true), iV 0, iV 0, V.raw (.bool false), V.lit false, V.raw (.bool true), V.raw (.bool false), V.raw (.bool false), uV, uV, .ptr 14 11, V.raw (Value.slice none 0 0), pV 450 2946, .slo 20 1, .slo 21 1, .ptr 14 11, V.raw (Value.slice none 0 0), pV 30000 60000, .slo 22 1, .slo 23 1, V.raw (Value.slice none 0 0), pV 30000 60000, pV 450 2946, iV 2946, V.raw (.agg { toList := [.int .i64 30000, .int .i64 60000, .int .i64 2946] }), .slo 25 1, .slo 26 1] (repU 26 []))
abbrev zq5 (TC : Nat) : Heap := [some (.cells (zq120) TC .ro), some (.cells [iV 4, iV (-1)] 129 .rw), some (.cells (zq125) 29 .rw), some (.cells (zq128) 74 (.row 5)), some (.cells [iV 100, iV 0, iV 0] 46 (.row 3)), some (.cells [iV 450, iV 2946] 65 .rw), some (.cells [iV 1, iV 0, iV 28800, iV 0, iV 0, iV 0] 62 .rw), some (.cells (zq130) 60 (.row 2)), some (.cells [iV 0, iV 0] 56 .rw), some (.cells (zq126) 138 .rw), some (.cells (zq129) 141 .rw), some (.cells (zq124) 29 .rw), some (.cells (zq128) 74 (.row 5)), some (.cells [iV 100, iV 0, iV 0] 46 (.row 3)), some (.cells (zq123) 138 .rw), some (.cells (zq130) 60 .rw), bkP 30000 60000, bkP 30000 60000, some (.cells [iV 450, iV 2946] 65 .rw), some (.cells [iV 450, iV 2946] 65 .rw), some (.cells [iV 450, iV 2946] 65 (.row 2)), some (.cells [iV 450, iV 2946] 65 (.row 2)), some (.cells [iV 30000, iV 60000] 24 (.row 2)), some (.cells [iV 30000, iV 60000] 24 (.row 2)), some (.cells [iV 450, iV 2946] 65 .rw), some (.cells [iV 30000, iV 60000, iV 2946] 26 (.row 3)), some (.cells [iV 30000, iV 60000, iV 2946] 26 (.row 3))]
def wst_H7 (TC : Nat) : Heap := (zq5 TC)
theorem wst_7 (TC : Nat) : Runs cfxg 0 15 none (sr (sr (sr (sr (sr (bl (sl (sr (loopOf cfxg.P 53 0))))))))) (wst_T6 TC) (wst_H6 TC) (Ex.normal) (wst_T7 TC) (wst_H7 TC) :=
  body_push (id := 13) (o := ((opsOf (sr (sr (sr (sr (sr (bl (sl (sr (loopOf cfxg.P 53 0)))))))))).toList.getLastD default)) (ops := (opsOf (sr (sr (sr (sr (sr (bl (sl (sr (loopOf cfxg.P 53 0)))))))))).pop) cfxg_mixed cfxg_call zz (rnd := none) (fi := 0) (k := 0) (n := 40) (n0 := 15) (ans := [Ans.olds [], Ans.go]) (cons := [(1 ≤ 9223372036854775807), (3 ≤ 3), zY, (1 ≤ 9223372036854775807 ∧ 24 ≤ 140737488355328)]) zk zk zk
    ⟨zds, zds, rfl, zds, trivial⟩ zb zb
def wst_T8 (TC : Nat) : List V := (catV [iV 100, iV 0, .slo 7 1, pV 0 0, uV, uV, uV, .ptr 8 0, .ptr 9 0, .ptr 10 0, V.raw (.bool false), .ptr 14 0, .slo 23 1, .slo 26 1, iV 1, .ptr 17 0, V.raw (.bool true), iV 0, uV, uV, iV 100, iV 0, V.agg (zq85), pV 0 0, V.agg (zq73), iV 0, .slo 7 1, iV 1, V.raw (.bool true), iV 0, iV 1, .slo 7 1, iV 0, .ptr 7 0, V.raw (.agg { toList := [Value.int IntKind.u16 20000, Value.int IntKind.u16 20000] }), pV 30000 60000, V.raw (.tuple { toList := [.bool true, .int .i64 0] }), .ptr 14 0, V.agg (zq85), pV 30000 60000, pV 450 2946, iV 2946, V.raw (Value.slice none 0 0), V.raw (.tuple { toList := [.bool true, .int .i64 0] }), V.raw (.bool true), iV 0, iV 0, V.raw (.bool false), V.lit false, V.raw (.bool true), V.raw (.bool false), V.raw (.bool false), uV, uV, .ptr 14 11, V.raw (Value.slice none 0 0), pV 450 2946, .slo 20 1, .slo 21 1, .ptr 14 11, V.raw (Value.slice none 0 0), pV 30000 60000, .slo 22 1, .slo 23 1, V.raw (Value.slice none 0 0), pV 30000 60000, pV 450 2946, iV 2946, V.raw (.agg { toList := [.int .i64 30000, .int .i64 60000, .int .i64 2946] }), .slo 25 1, .slo 26 1] (repU 26 []))
def wst_H8 (TC : Nat) : Heap := (zq5 TC)
theorem wst_8 (TC : Nat) : Runs cfxg 0 15 none (sr (sr (loopOf cfxg.P 53 0))) (wst_T7 TC) (wst_H7 TC) (Ex.normal) (wst_T8 TC) (wst_H8 TC) :=
  body_of cfxg_mixed cfxg_call zz (rnd := none) (fi := 0) (k := 0) (n := 40) (n0 := 15) (ans := []) (cons := [(inR IntKind.i64 1)]) zk
    ⟨inR_i64 zo zo, trivial⟩ zb zb noRnd (noRanges zk)
abbrev zq8 : List V := (catV [iV 100, iV 0, .slo 7 1, pV 0 0, uV, uV, uV, .ptr 8 0, .ptr 9 0, .ptr 10 0, V.raw (.bool false), .ptr 14 0, .slo 23 1, .slo 26 1, iV 1, .ptr 17 0, V.raw (.bool true), iV 0, uV, uV, iV 100, iV 0, V.agg (zq124), pV 0 0, V.agg (zq122), iV 1, .slo 7 1, iV 1, V.raw (.bool false), iV 0, iV 1, .slo 7 1, iV 0, .ptr 7 0, V.raw (.agg { toList := [Value.int IntKind.u16 20000, Value.int IntKind.u16 20000] }), pV 30000 60000, V.raw (.tuple { toList := [.bool true, .int .i64 0] }), .ptr 14 0, V.agg (zq124), pV 30000 60000, pV 450 2946, iV 2946, V.raw (Value.slice none 0 0), V.raw (.tuple { toList := [.bool true, .int .i64 0] }), V.raw (.bool true), iV 0, iV 0, V.raw (.bool false), V.lit false, V.raw (.bool true), V.raw (.bool false), V.raw (.bool false), uV, uV, .ptr 14 11, V.raw (Value.slice none 0 0), pV 450 2946, .slo 20 1, .slo 21 1, .ptr 14 11, V.raw (Value.slice none 0 0), pV 30000 60000, .slo 22 1, .slo 23 1, V.raw (Value.slice none 0 0), pV 30000 60000, pV 450 2946, iV 2946, V.raw (.agg { toList := [.int .i64 30000, .int .i64 60000, .int .i64 2946] }), .slo 25 1, .slo 26 1] (repU 26 []))
def wst_T9 (TC : Nat) : List V := (zq8)
def wst_H9 (TC : Nat) : Heap := (zq5 TC)
theorem wst_9 (TC : Nat) : Runs cfxg 0 15 none (loopOf cfxg.P 53 0) (wst_T8 TC) (wst_H8 TC) (Ex.exit 0) (wst_T9 TC) (wst_H9 TC) :=
  body_of cfxg_mixed cfxg_call zz (rnd := none) (fi := 0) (k := 0) (n := 40) (n0 := 15) (ans := [zF]) (cons := [zN]) zk
    ⟨rfl, trivial⟩ zb zb noRnd (noRanges zk)
theorem wst_loop (TC : Nat) : Runs cfxg 0 15 none (.loop (loopOf cfxg.P 53 0)) (wst_T0 TC) (wst_H0 TC) (.exit 0) (wst_T9 TC) (wst_H9 TC) := by
  refine runs_loop (rounds_more noRnd (t1 := wst_T8 TC) (h1 := wst_H8 TC) ?_ (rounds_done (wst_9 TC) (by simp)))
  have e : (loopOf cfxg.P 53 0) = .seq (sl (loopOf cfxg.P 53 0)) (.seq (.block (bi (sl (sr (loopOf cfxg.P 53 0)))) (.seq (sl (bl (sl (sr (loopOf cfxg.P 53 0))))) (.seq (sl (sr (bl (sl (sr (loopOf cfxg.P 53 0)))))) (.seq (sl (sr (sr (bl (sl (sr (loopOf cfxg.P 53 0))))))) (.seq (sl (sr (sr (sr (bl (sl (sr (loopOf cfxg.P 53 0)))))))) (.seq (sl (sr (sr (sr (sr (bl (sl (sr (loopOf cfxg.P 53 0))))))))) (sr (sr (sr (sr (sr (bl (sl (sr (loopOf cfxg.P 53 0))))))))))))))) (sr (sr (loopOf cfxg.P 53 0)))) := by kernel_rfl
  rw [e]
  exact Runs.seq noRnd (wst_1 TC) (Runs.seq noRnd (Runs.block (Runs.seq noRnd (wst_2 TC) (Runs.seq noRnd (wst_3 TC) (Runs.seq noRnd (wst_4 TC) (Runs.seq noRnd (wst_5 TC) (Runs.seq noRnd (wst_6 TC) (wst_7 TC))))))) (wst_8 TC))
abbrev zq31 : List V := (catV [V.agg (zq123), .ptr 29 0, iV 0, iV 0, uV, uV, .ptr 29 0, V.agg (zq124), iV 0, iV 0, V.raw (.bool false), uV, .ptr 29 11, .slo 21 1, iV 1, V.raw (.bool false), V.lit false, .ptr 29 11, .slo 21 1, iV 1, V.raw (.bool false), V.raw (.bool false), .ptr 29 11, .slo 21 1, iV 1, iV 0] (repU 10 []))
def wcg_T0 (TC : Nat) : List V := (zq31)
abbrev zq4 (TC : Nat) : Heap := [some (.cells (zq120) TC .ro), some (.cells [iV 4, iV (-1)] 129 .rw), some (.cells (zq125) 29 .rw), some (.cells (zq128) 74 (.row 5)), some (.cells [iV 100, iV 0, iV 0] 46 (.row 3)), some (.cells [iV 450, iV 2946] 65 .rw), some (.cells [iV 1, iV 0, iV 28800, iV 0, iV 0, iV 0] 62 .rw), some (.cells (zq130) 60 (.row 2)), some (.cells [iV 0, iV 0] 56 .rw), some (.cells (zq126) 138 .rw), some (.cells (zq129) 141 .rw), some (.cells (zq124) 29 .rw), some (.cells (zq128) 74 (.row 5)), some (.cells [iV 100, iV 0, iV 0] 46 (.row 3)), some (.cells (zq123) 138 .rw), some (.cells (zq130) 60 .rw), bkP 30000 60000, bkP 30000 60000, some (.cells [iV 450, iV 2946] 65 .rw), some (.cells [iV 450, iV 2946] 65 .rw), some (.cells [iV 450, iV 2946] 65 (.row 2)), some (.cells [iV 450, iV 2946] 65 (.row 2)), some (.cells [iV 30000, iV 60000] 24 (.row 2)), some (.cells [iV 30000, iV 60000] 24 (.row 2)), some (.cells [iV 450, iV 2946] 65 .rw), some (.cells [iV 30000, iV 60000, iV 2946] 26 (.row 3)), some (.cells [iV 30000, iV 60000, iV 2946] 26 (.row 3)), some (.cells (zq123) 138 .rw), some (.cells (zq129) 141 .rw), some (.cells (zq123) 138 .rw)]
def wcg_H0 (TC : Nat) : Heap := (zq4 TC)
abbrev zq28 : List V := [V.agg (zq123), .ptr 29 0, iV 0, iV 0, uV, .ptr 30 0, .ptr 29 0, V.agg (zq124), iV 0, iV 0, V.raw (.bool false), uV, .ptr 29 11, .slo 21 1, iV 1, V.raw (.bool false), V.lit false, .ptr 29 11, .slo 21 1, iV 1, V.raw (.bool false), V.raw (.bool false), .ptr 29 11, .slo 21 1, iV 1, iV 1, V.raw (.bool false), .ptr 21 0, pV 450 2946, pV 450 2946, iV 0, V.raw (.bool false), iV 1, uV, uV, uV]
def wcg_T1 (TC : Nat) : List V := (zq28)
abbrev zq3 (TC : Nat) : Heap := [some (.cells (zq120) TC .ro), some (.cells [iV 4, iV (-1)] 129 .rw), some (.cells (zq125) 29 .rw), some (.cells (zq128) 74 (.row 5)), some (.cells [iV 100, iV 0, iV 0] 46 (.row 3)), some (.cells [iV 450, iV 2946] 65 .rw), some (.cells [iV 1, iV 0, iV 28800, iV 0, iV 0, iV 0] 62 .rw), some (.cells (zq130) 60 (.row 2)), some (.cells [iV 0, iV 0] 56 .rw), some (.cells (zq126) 138 .rw), some (.cells (zq129) 141 .rw), some (.cells (zq124) 29 .rw), some (.cells (zq128) 74 (.row 5)), some (.cells [iV 100, iV 0, iV 0] 46 (.row 3)), some (.cells (zq123) 138 .rw), some (.cells (zq130) 60 .rw), bkP 30000 60000, bkP 30000 60000, some (.cells [iV 450, iV 2946] 65 .rw), some (.cells [iV 450, iV 2946] 65 .rw), some (.cells [iV 450, iV 2946] 65 (.row 2)), some (.cells [iV 450, iV 2946] 65 (.row 2)), some (.cells [iV 30000, iV 60000] 24 (.row 2)), some (.cells [iV 30000, iV 60000] 24 (.row 2)), some (.cells [iV 450, iV 2946] 65 .rw), some (.cells [iV 30000, iV 60000, iV 2946] 26 (.row 3)), some (.cells [iV 30000, iV 60000, iV 2946] 26 (.row 3)), some (.cells (zq123) 138 .rw), some (.cells (zq129) 141 .rw), some (.cells (zq123) 138 .rw), some (.cells [iV 450, iV 2946] 65 .rw)]
def wcg_H1 (TC : Nat) : Heap := (zq3 TC)
theorem wcg_1 (TC : Nat) : Runs cfxg 0 30 none (.loop (loopOf cfxg.P 121 0)) (wcg_T0 TC) (wcg_H0 TC) (Ex.exit 0) (wcg_T1 TC) (wcg_H1 TC) :=
  body_of cfxg_mixed cfxg_call zz (rnd := none) (fi := 0) (k := 0) (n := 40) (n0 := 30) (ans := [zT, Ans.ret (iV 0), zF, zF]) (cons := [zY, ((0 : Int) ≤ (0 : Int) ∧ (0 : Int) < (1 : Int)), (Ret cfxg 115 [pV 450 2946] (iV 0)), zN, (inR IntKind.i64 1), zN]) zk
    ⟨rfl, zo, (up_ret gr_Ball), rfl, inR_i64 zo zo, rfl, trivial⟩ zb zb noRnd (noRanges zk)
abbrev zq29 : List V := (catV [V.agg (zq123), .slo 23 1, .ptr 27 0, uV, .ptr 28 0, iV 0, iV 0, .ptr 33 0, uV, uV, V.agg (zq123), iV 0, iV 0, V.raw (.bool false), uV, uV, .slo 23 1, iV 1, .ptr 27 11, .slo 21 1, iV 1, V.raw (.bool false), uV, .slo 23 1, iV 1, .slo 31 1, .slo 23 1, iV 1, .slo 32 1, V.agg [.slo 31 1, .slo 32 1, iV 0, iV 0, iV 0], .slo 23 1, iV 1, iV 0] (repU 18 []))
def wli_T0 (TC : Nat) : List V := (zq29)
abbrev zq2 (TC : Nat) : Heap := [some (.cells (zq120) TC .ro), some (.cells [iV 4, iV (-1)] 129 .rw), some (.cells (zq125) 29 .rw), some (.cells (zq128) 74 (.row 5)), some (.cells [iV 100, iV 0, iV 0] 46 (.row 3)), some (.cells [iV 450, iV 2946] 65 .rw), some (.cells [iV 1, iV 0, iV 28800, iV 0, iV 0, iV 0] 62 .rw), some (.cells (zq130) 60 (.row 2)), some (.cells [iV 0, iV 0] 56 .rw), some (.cells (zq126) 138 .rw), some (.cells (zq129) 141 .rw), some (.cells (zq124) 29 .rw), some (.cells (zq128) 74 (.row 5)), some (.cells [iV 100, iV 0, iV 0] 46 (.row 3)), some (.cells (zq123) 138 .rw), some (.cells (zq130) 60 .rw), bkP 30000 60000, bkP 30000 60000, some (.cells [iV 450, iV 2946] 65 .rw), some (.cells [iV 450, iV 2946] 65 .rw), some (.cells [iV 450, iV 2946] 65 (.row 2)), some (.cells [iV 450, iV 2946] 65 (.row 2)), some (.cells [iV 30000, iV 60000] 24 (.row 2)), some (.cells [iV 30000, iV 60000] 24 (.row 2)), some (.cells [iV 450, iV 2946] 65 .rw), some (.cells [iV 30000, iV 60000, iV 2946] 26 (.row 3)), some (.cells [iV 30000, iV 60000, iV 2946] 26 (.row 3)), some (.cells (zq123) 138 .rw), some (.cells (zq129) 141 .rw), some (.cells (zq123) 138 .rw), some (.cells [iV 450, iV 2946] 65 .rw), some (.cells [iV 0, iV 0, iV 0, iV 0, iV 0, iV 0] 62 (.row 6)), some (.cells [V.raw (.bool false)] 4 (.row 1)), some (.cells [.slo 31 1, .slo 32 1, iV 0, iV 0, iV 0] 141 .rw)]
def wli_H0 (TC : Nat) : Heap := (zq2 TC)
abbrev zq23 : List V := [V.agg (zq123), .slo 23 1, .ptr 27 0, uV, .ptr 28 0, iV 0, iV 0, .ptr 33 0, iV 0, .ptr 34 0, V.agg (zq123), iV 0, iV 0, V.raw (.bool false), uV, uV, .slo 23 1, iV 1, .ptr 27 11, .slo 21 1, iV 1, V.raw (.bool false), uV, .slo 23 1, iV 1, .slo 31 1, .slo 23 1, iV 1, .slo 32 1, V.agg [.slo 31 1, .slo 32 1, iV 0, iV 0, iV 0], .slo 23 1, iV 1, iV 1, V.raw (.bool false), iV 0, .ptr 23 0, pV 30000 60000, .ptr 27 0, V.agg (zq124), pV 30000 60000, V.raw (.bool true), V.raw (.bool false), uV, .ptr 33 0, .slo 31 1, iV 0, pV 30000 60000, .ptr 31 0, .ptr 31 0, iV 1, uV]
def wli_T1 (TC : Nat) : List V := (zq23)
abbrev zq1 (TC : Nat) : Heap := [some (.cells (zq120) TC .ro), some (.cells [iV 4, iV (-1)] 129 .rw), some (.cells (zq125) 29 .rw), some (.cells (zq128) 74 (.row 5)), some (.cells [iV 100, iV 0, iV 0] 46 (.row 3)), some (.cells [iV 450, iV 2946] 65 .rw), some (.cells [iV 1, iV 0, iV 28800, iV 0, iV 0, iV 0] 62 .rw), some (.cells (zq130) 60 (.row 2)), some (.cells [iV 0, iV 0] 56 .rw), some (.cells (zq126) 138 .rw), some (.cells (zq129) 141 .rw), some (.cells (zq124) 29 .rw), some (.cells (zq128) 74 (.row 5)), some (.cells [iV 100, iV 0, iV 0] 46 (.row 3)), some (.cells (zq123) 138 .rw), some (.cells (zq130) 60 .rw), bkP 30000 60000, bkP 30000 60000, some (.cells [iV 450, iV 2946] 65 .rw), some (.cells [iV 450, iV 2946] 65 .rw), some (.cells [iV 450, iV 2946] 65 (.row 2)), some (.cells [iV 450, iV 2946] 65 (.row 2)), some (.cells [iV 30000, iV 60000] 24 (.row 2)), some (.cells [iV 30000, iV 60000] 24 (.row 2)), some (.cells [iV 450, iV 2946] 65 .rw), some (.cells [iV 30000, iV 60000, iV 2946] 26 (.row 3)), some (.cells [iV 30000, iV 60000, iV 2946] 26 (.row 3)), some (.cells (zq123) 138 .rw), some (.cells (zq129) 141 .rw), some (.cells (zq123) 138 .rw), some (.cells [iV 450, iV 2946] 65 .rw), some (.cells [iV 30000, iV 60000, iV 0, iV 0, iV 0, iV 0] 62 (.row 6)), some (.cells [V.raw (.bool false)] 4 (.row 1)), some (.cells [.slo 31 1, .slo 32 1, iV 0, iV 0, iV 0] 141 .rw), bkP 30000 60000, some (.cells (zq124) 29 .rw), bkP 30000 60000]
def wli_H1 (TC : Nat) : Heap := (zq1 TC)
theorem wli_1 (TC : Nat) : Runs cfxg 0 34 none (.loop (loopOf cfxg.P 91 0)) (wli_T0 TC) (wli_H0 TC) (Ex.exit 0) (wli_T1 TC) (wli_H1 TC) :=
  body_of cfxg_mixed cfxg_call zz (rnd := none) (fi := 0) (k := 0) (n := 40) (n0 := 34) (ans := [zT, Ans.go, Ans.go, zT, zT, zT, Ans.go, zT, zT, zT, zF, zF]) (cons := [zY, ((0 : Int) ≤ (0 : Int) ∧ (0 : Int) < (1 : Int)), zY, zY, zY, zY, zY, zY, zN, ((0 : Int) ≤ (0 : Int) ∧ (0 : Int) < (1 : Int)), (inR IntKind.i64 1), zN]) zk
    ⟨rfl, zo, rfl, rfl, rfl, rfl, rfl, rfl, rfl, zo, inR_i64 zo zo, rfl, trivial⟩ zb zb noRnd (noRanges zk)
abbrev zq30 (TC : Nat) : Heap := [some (.cells (zq120) TC .ro), some (.cells [iV 4, iV (-1)] 129 .rw), some (.cells (zq125) 29 .rw), some (.cells (zq128) 74 (.row 5)), some (.cells [iV 100, iV 0, iV 0] 46 (.row 3))]
abbrev zq67 : List V := [iV 2, iV 0, iV 0, iV (-1), iV (-1), iV 0, iV 0, iV 0, iV 0, V.raw (.bool false), V.raw (.bool false), V.raw (.bool false), V.raw (.bool false), V.raw (.bool false), V.raw (.bool false), V.raw (.bool false), V.raw (.bool false), iV 0, iV 0, V.raw (.bool false), V.raw (.bool false), V.raw (.bool false), iV 0, iV 0, iV (-1), iV (-1)]
theorem works05 (TC : Nat)  : Meets cfxg 0 16 [] [some (.cells [.raw (.int .i64 12), .raw (.int .i64 0), .raw (.int .i64 0), .raw (.bool true), .raw (.bool true), .raw (.bool false), .raw (.int .i64 12), .raw (.int .i64 7), .raw (.int .i64 10), .raw (.bool true), .raw (.bool false), .raw (.bool false), .raw (.int .i64 6), .raw (.int .i64 0), .raw (.int .i64 0), .raw (.bool true), .raw (.bool true), .raw (.bool false), .raw (.int .i64 12), .raw (.int .i64 0), .raw (.int .i64 0), .raw (.bool false), .raw (.bool false), .raw (.bool true)] TC .ro)] (V.raw (.bool true)) [some (.cells (zq68) TC .ro)] := by
  refine Meets.post (meets_ev cfxg_mixed cfxg_call zz zb (n := 40) (ans := [Ans.go, Ans.ret (V.raw (.tuple { toList := [.agg { toList := [.int .i64 4, .int .i64 (-1)] }, .int .i64 0] })), Ans.go, Ans.reth (V.raw (.tuple { toList := [.bool true, .int .i64 0] })) (zq30 TC), Ans.go, Ans.ret (V.raw (.tuple { toList := [.agg { toList := [.int .i64 1, .int .i64 0, .int .i64 28800, .int .i64 0, .int .i64 0, .int .i64 0] }, .int .i64 0] })), Ans.go, Ans.olds [(6, 28)], Ans.go, Ans.loop (Ex.exit 0) (zq8) (zq5 TC), Ans.go, Ans.go, Ans.reth (iV 0) (zq4 TC), zF, zF, zF, zF, Ans.loop (Ex.exit 0) (zq28) (zq3 TC), Ans.ret (iV 0), zF, zF, Ans.olds [(8, 66)], Ans.loop (Ex.exit 0) (zq23) (zq1 TC), Ans.olds [(21, 20), (20, 18)], zT, zT, zT, zT, zT, zT, zT, zT, zT, zT, zT, zT, zT, zT, Ans.go, Ans.go, Ans.go, zT, zT, zF, zF, Ans.go, zT, Ans.go, zT, zT, zT, Ans.go, zT, zT, zT, zF, Ans.go, zT, zT, zT, zT, zT, zT, zT, zT, zT, zT, zT, zT, zT, zT]) (v := V.raw (.bool true)) (h' := [some (.cells (zq68) TC .ro), some (.cells [iV 4, iV (-1)] 129 .rw), some (.cells (zq86) 29 .rw), some (.cells (zq104) 74 (.row 5)), some (.cells [iV 100, iV 0, iV 0] 46 (.row 3)), some (.cells [iV 450, iV 2946] 65 .rw), some (.cells [iV 1, iV 0, iV 28800, iV 0, iV 0, iV 0] 62 .rw), some (.cells (zq116) 60 (.row 2)), some (.cells [iV 0, iV 0] 56 .rw), some (.cells (zq77) 138 .rw), some (.cells [.slo 31 1, .slo 32 1, iV 0, iV 0, iV 0] 141 .rw), some (.cells (zq85) 29 .rw), some (.cells (zq104) 74 (.row 5)), some (.cells [iV 100, iV 0, iV 0] 46 (.row 3)), some (.cells (zq77) 138 .rw), some (.cells (zq116) 60 .rw), bkP 30000 60000, bkP 30000 60000, some (.cells [iV 450, iV 2946] 65 .rw), some (.cells [iV 450, iV 2946] 65 .rw), some (.cells [iV 450, iV 2946] 65 (.row 2)), some (.cells [iV 450, iV 2946] 65 (.row 2)), some (.cells [iV 30000, iV 60000] 24 (.row 2)), some (.cells [iV 30000, iV 60000] 24 (.row 2)), some (.cells [iV 450, iV 2946] 65 .rw), some (.cells [iV 30000, iV 60000, iV 2946] 26 (.row 3)), some (.cells [iV 30000, iV 60000, iV 2946] 26 (.row 3)), some (.cells (zq77) 138 .rw), some (.cells [.slo 31 1, .slo 32 1, iV 0, iV 0, iV 0] 141 .rw), some (.cells (zq77) 138 .rw), some (.cells [iV 450, iV 2946] 65 .rw), some (.cells [iV 30000, iV 60000, iV 0, iV 0, iV 0, iV 0] 62 (.row 6)), some (.cells [V.raw (.bool false)] 4 (.row 1)), some (.cells [.slo 31 1, .slo 32 1, iV 0, iV 0, iV 0] 141 .rw), bkP 30000 60000, some (.cells (zq85) 29 .rw), bkP 30000 60000, some (.cells [.slo 31 1, .slo 32 1, iV 0, iV 0, iV 0] 141 .rw), some (.cells (zq77) 138 .rw), some (.cells [.slo 31 1, .slo 32 1, iV 0, iV 0, iV 0] 141 .rw), some (.cells [iV 0, iV 0] 71 .rw), some (.cells (zq67) 148 .rw), some (.cells [iV 6, iV 0, iV 0, V.raw (.bool true), V.raw (.bool true), V.raw (.bool false)] 187 .rw), some (.cells [iV 6, iV 0, iV 0, V.raw (.bool true), V.raw (.bool true), V.raw (.bool false)] 187 .rw), some (.cells [iV 0, iV 0] 71 .rw), some (.cells [iV 6, iV 0, iV 0, V.raw (.bool true), V.raw (.bool true), V.raw (.bool false)] 187 .rw), some (.cells (zq67) 148 .rw), some (.cells (zq67) 148 .rw), some (.cells (zq67) 148 .rw)]) (cons := [(Ret cfxg 49 [iV 7, iV 2] (V.raw (.tuple { toList := [.agg { toList := [.int .i64 4, .int .i64 (-1)] }, .int .i64 0] }))), (2 ≤ 9223372036854775807), (1 ≤ 9223372036854775807), (Meets cfxg 0 50 [V.agg (zq86), pV 5 5] (zq30 TC) (V.raw (.tuple { toList := [.bool true, .int .i64 0] })) (zq30 TC)), (Ret cfxg 52 [pV 450 2946, V.raw (.agg { toList := [.int .i64 0, .int .i64 0, .int .i64 28800, .int .i64 0, .int .i64 0, .int .i64 0] })] (V.raw (.tuple { toList := [.agg { toList := [.int .i64 1, .int .i64 0, .int .i64 28800, .int .i64 0, .int .i64 0, .int .i64 0] }, .int .i64 0] }))), (1 ≤ 9223372036854775807), (2 ≤ 9223372036854775807), (1 ≤ 9223372036854775807), (Runs cfxg 0 15 none (.loop (loopOf cfxg.P 53 0)) (zq26) (zq20 TC) (Ex.exit 0) (zq8) (zq5 TC)), (Meets cfxg 0 18 [V.agg (zq85)] (zq4 TC) (iV 0) (zq4 TC)), zN, zN, zN, zN, (Runs cfxg 0 30 none (.loop (loopOf cfxg.P 121 0)) (zq31) (zq4 TC) (Ex.exit 0) (zq28) (zq3 TC)), (Ret cfxg 45 [pV 0 0] (iV 0)), zN, zN, ((0 : Int) ≤ (1 : Int) ∧ (1 : Int) ≤ (1 : Int) ∧ (48 : Int) ≤ (281474976710656 : Int) ∧ (1 : Int) ≤ (9223372036854775807 : Int)), ((0 : Int) ≤ (1 : Int) ∧ (1 : Int) ≤ (1 : Int) ∧ (1 : Int) ≤ (281474976710656 : Int) ∧ (1 : Int) ≤ (9223372036854775807 : Int)), (Runs cfxg 0 34 none (.loop (loopOf cfxg.P 91 0)) (zq29) (zq2 TC) (Ex.exit 0) (zq23) (zq1 TC)), zY, zY, zY, zY, zY, zY, zY, zY, zY, zY, zY, zY, zY, zY, zY, zY, zN, ((0 : Int) ≤ (2 : Int) ∧ (2 : Int) < (4 : Int)), zN, zY, ((0 : Int) ≤ (0 : Int) ∧ (0 : Int) < (2 : Int)), zY, zY, zY, ((0 : Int) ≤ (1 : Int) ∧ (1 : Int) < (2 : Int)), zY, zY, zY, zN, (inR IntKind.i64 0), (inR IntKind.i64 0), (inR IntKind.i64 0), zY, zY, zY, zY, zY, zY, zY, zY, zY, zY, zY, zY, zY, ((0 : Int) ≤ (0 : Int) ∧ (0 : Int) < (1 : Int)), zY]) zk
    ⟨(up_ret gr_Divide), zds, zds, (by exact up_meets (below_ro (lim := 0) (N := []) rfl rfl (fun k => if k = 0 then 3 else 4) (fun _ => false) (gr_On _ (Nat.le_of_ble_eq_true zk) zk) ⟨⟨_, _, rfl, rfl, .inl ⟨rfl, _, rfl⟩⟩, ⟨_, _, rfl, rfl, .inl ⟨rfl, _, rfl⟩⟩, trivial⟩ (fun _ _ => rfl) rfl rfl rfl zn zz) (by simp)), (up_ret gr_Step), zds, zds, zds, (wst_loop TC), (by exact up_meets (below_ro (lim := 0) (N := []) rfl rfl (fun k => if k = 0 then 12 else 13) (fun _ => false) (grf_Check _ (Nat.le_of_ble_eq_true zk) zk) ⟨⟨_, _, rfl, rfl, .inl ⟨rfl, _, rfl⟩⟩, ⟨_, _, rfl, rfl, .inl ⟨rfl, _, rfl⟩⟩, trivial⟩ (fun _ _ => rfl) rfl rfl rfl zn zz) (by simp)), rfl, rfl, rfl, rfl, (wcg_1 TC), (up_ret gr_Bnc), rfl, rfl, zds, zds, (wli_1 TC), rfl, rfl, rfl, rfl, rfl, rfl, rfl, rfl, rfl, rfl, rfl, rfl, rfl, rfl, rfl, rfl, rfl, zo, rfl, rfl, zo, rfl, rfl, rfl, zo, rfl, rfl, rfl, rfl, inR_i64 zo zo, inR_i64 zo zo, inR_i64 zo zo, rfl, rfl, rfl, rfl, rfl, rfl, rfl, rfl, rfl, rfl, rfl, rfl, rfl, zo, rfl, trivial⟩) zk (fun RT RH => reshape2g (lim := 0) 1 (by decide) [] zk zk (by exact (ents_say rfl rfl rfl rfl (ents_nil))) RT RH)
theorem ttg_loop (ds ms : List Int) (n k : Nat) (rb : Int) (TC TD TM : Nat) (hdl : n * 2 ≤ ds.length) (hml : k * 2 ≤ ms.length) (hrb : 0 ≤ rb ∧ rb ≤ 65535) (hrt : 0 ≤ rb.tmod 951 ∧ rb.tmod 951 ≤ 950) (N : Nat) (hN2 : N ≤ 6) (xs ys os ps : List Int) (m : Nat) (hm1 : m ≤ 100) (hxl : xs.length = N * 2) (hyl : ys.length = N * 6) (hol : os.length = N * 6) (hpl : ps.length = m * 2) (h1 : (zq65 N rb xs ys m os ps)) (hL : Runs cfxg 0 4 none (.loop (loopOf cfxg.P 4 0)) (tta_T ds ms n k rb TC TD TM 0 [] [] 0 0) (tta_H ds ms n k rb TC TD TM 0 [] [] 0 0) (.exit 0) (tta_T3 ds ms n k rb TC TD TM (N : Int) xs ys N N) (tta_H3 ds ms n k rb TC TD TM (N : Int) xs ys N N)) (hL2 : Runs cfxg 0 8 none (.loop (loopOf cfxg.P 4 1)) (ttb_T ds ms n k rb TC TD TM N xs ys os ps m 0) (ttb_H ds ms n k rb TC TD TM N xs ys os ps m 0) (.exit 2) (ttf_T1 ds ms n k rb TC TD TM N xs ys os ps m (N : Int)) (ttf_H1 ds ms n k rb TC TD TM N xs ys os ps m (N : Int))) (hD : ∀ j : Nat, chkDisc (at' ys (j * 6)) (at' ys (j * 6 + 1)) 2946 = 0) (hP : ∀ t : Nat, t < m → ∃ j q : Nat, at' ps (t * 2) = j ∧ at' ps (t * 2 + 1) = q ∧ j < q ∧ q < N ∧ M.sq (at' ys (j * 6)) (at' ys (j * 6 + 1)) (at' ys (q * 6)) (at' ys (q * 6 + 1)) ≤ 34715664) : Runs cfxg 0 8 none (.loop (loopOf cfxg.P 4 3)) (ttg_T ds ms n k rb TC TD TM N xs ys os ps m 0) (ttg_H ds ms n k rb TC TD TM N xs ys os ps m 0) (.exit 6) (tti_T1 ds ms n k rb TC TD TM N xs ys os ps m (m : Int)) (tti_H1 ds ms n k rb TC TD TM N xs ys os ps m (m : Int)) :=
  upto (c := cfxg) (lim := 0) (n0 := 8) (x := loopOf cfxg.P 4 3) noRnd (fun i : Nat => ttg_T ds ms n k rb TC TD TM N xs ys os ps m i) (fun i : Nat => ttg_H ds ms n k rb TC TD TM N xs ys os ps m i) m (e := .exit 6) (by simp)
    (fun i hi => by
      obtain ⟨j, q, e1, e2, e3, e4, e5⟩ := hP i hi
      exact tth_1 ds ms n k rb TC TD TM hdl hml hrb hrt N hN2 xs ys os ps m hm1 hxl hyl hol hpl h1 hL hL2 i (by omega) (by omega) (by simp only [Int.toNat_natCast]; omega) (by simp only [Int.toNat_natCast]; omega) (by simp only [Int.toNat_natCast]; omega) (by simp only [Int.toNat_natCast, e1]; exact hD j) (by simp only [Int.toNat_natCast, e2]; exact hD q) (by
        simp only [Int.toNat_natCast, e1, e2]
        unfold M.cmp
        split
        · omega
        · rw [if_neg (by omega)]; omega))
    (tti_1 ds ms n k rb TC TD TM hdl hml hrb hrt N hN2 xs ys os ps m hm1 hxl hyl hol hpl h1 hL hL2 m zo zo)
abbrev zq6 (n : Nat) (k : Nat) (rb : Int) (N : Nat) (m : Nat) : List V := (catV [.slo 1 n, .slo 2 k, V.raw (Value.int IntKind.u16 rb), uV, uV, uV, V.raw (.bool false), .ptr 3 0, .slo 4 N, .slo 5 N, iV (N : Int), .any 11, .slo 6 N, .slo 7 m, iV 0, iV 0] (anyR 16 9 (catV [V.raw (Value.int IntKind.u16 rb), iV rb, iV (rb.tmod 951), pV (rb.tmod 951) 0] (anyR 29 54 (catV [V.tup [.slo 6 N, .slo 7 m, iV 0], .slo 4 N, .slo 5 N, pV (rb.tmod 951) 0, V.tup [.slo 6 N, .slo 7 m, iV 0], .slo 6 N, .slo 7 m, iV 0, iV 0, V.raw (.bool false)] (anyR 93 10 (catV [.slo 6 N, iV (N : Int), .slo 5 N, iV (N : Int), V.raw (.bool !decide ((N : Int) = (N : Int)))] (anyR 108 104 []))))))))
abbrev zq10 (n : Nat) (k : Nat) (rb : Int) (N : Nat) : List V := (catV [.slo 1 n, .slo 2 k, V.raw (Value.int IntKind.u16 rb), uV, uV, uV, V.raw (.bool false), .ptr 3 0, .slo 4 N, .slo 5 N, iV (N : Int)] (anyR 11 14 (catV [V.raw (Value.int IntKind.u16 rb), iV rb, iV (rb.tmod 951), pV (rb.tmod 951) 0] (anyR 29 183 []))))
abbrev zq15 (n : Nat) (k : Nat) (rb : Int) (N : Nat) (m : Nat) : List V := (catV [.slo 1 n, .slo 2 k, V.raw (Value.int IntKind.u16 rb), uV, uV, uV, V.raw (.bool false), .ptr 3 0, .slo 4 N, .slo 5 N, iV (N : Int), .any 11, .slo 6 N, .slo 7 m, iV 0, iV (N : Int), .any 16, .any 17, .any 18, .any 19, iV (m : Int)] (anyR 21 191 []))
abbrev zq16 (n : Nat) (k : Nat) (rb : Int) (N : Nat) (m : Nat) : List V := (catV [.slo 1 n, .slo 2 k, V.raw (Value.int IntKind.u16 rb), uV, uV, uV, V.raw (.bool false), .ptr 3 0, .slo 4 N, .slo 5 N, iV (N : Int), .any 11, .slo 6 N, .slo 7 m, iV 0, iV (N : Int)] (anyR 16 196 []))
abbrev zq17 (n : Nat) (k : Nat) (rb : Int) (N : Nat) (m : Nat) : List V := (catV [.slo 1 n, .slo 2 k, V.raw (Value.int IntKind.u16 rb), uV, uV, uV, V.raw (.bool false), .ptr 3 0, .slo 4 N, .slo 5 N, iV (N : Int), .any 11, .slo 6 N, .slo 7 m, iV 0, iV (N : Int), .any 16, .any 17, .any 18, .any 19, iV 0] (anyR 21 191 []))
abbrev zq25 (n : Nat) (k : Nat) (rb : Int) : List V := (catV [.slo 1 n, .slo 2 k, V.raw (Value.int IntKind.u16 rb), uV, uV, uV, V.raw (.bool false), .ptr 3 0, V.raw (Value.slice none 0 0), V.raw (Value.slice none 0 0), iV 0] (repU 14 (catV [V.raw (Value.int IntKind.u16 rb), iV rb, iV (rb.tmod 951), pV (rb.tmod 951) 0] (repU 183 []))))
abbrev zq45 (TC : Nat) (ds : List Int) (TD : Nat) (ms : List Int) (TM : Nat) : Heap := [some (.cells [.raw (.int .i64 12), .raw (.int .i64 0), .raw (.int .i64 0), .raw (.bool true), .raw (.bool true), .raw (.bool false), .raw (.int .i64 12), .raw (.int .i64 7), .raw (.int .i64 10), .raw (.bool true), .raw (.bool false), .raw (.bool false), .raw (.int .i64 6), .raw (.int .i64 0), .raw (.int .i64 0), .raw (.bool true), .raw (.bool true), .raw (.bool false), .raw (.int .i64 12), .raw (.int .i64 0), .raw (.int .i64 0), .raw (.bool false), .raw (.bool false), .raw (.bool true)] TC .ro), some (.cells (mixk [some .u16, some .u16] ds) TD .ro), some (.cells (mixk [some .i32, some .i32] ms) TM .ro)]
abbrev zq54 (TC : Nat) (ds : List Int) (TD : Nat) (ms : List Int) (TM : Nat) (rb : Int) : Heap := [some (.cells (zq120) TC .ro), some (.cells (mixk [some .u16, some .u16] ds) TD .ro), some (.cells (mixk [some .i32, some .i32] ms) TM .ro), some (.cells [iV (rb.tmod 951), iV 0] 56 .rw)]
abbrev zq57 (TC : Nat) (ds : List Int) (TD : Nat) (ms : List Int) (TM : Nat) : Heap := [some (.cells (zq120) TC .ro), some (.cells (mixk [some .u16, some .u16] ds) TD .ro), some (.cells (mixk [some .i32, some .i32] ms) TM .ro)]
theorem ttl_yes (ds ms : List Int) (n k : Nat) (rb : Int) (TC TD TM : Nat) (hdl : n * 2 ≤ ds.length) (hml : k * 2 ≤ ms.length) (hrb : 0 ≤ rb ∧ rb ≤ 65535) (hrt : 0 ≤ rb.tmod 951 ∧ rb.tmod 951 ≤ 950) (N : Nat) (hN2 : N ≤ 6) (xs ys os ps : List Int) (m : Nat) (hm1 : m ≤ 100) (hxl : xs.length = N * 2) (hyl : ys.length = N * 6) (hol : os.length = N * 6) (hpl : ps.length = m * 2) (h1 : (zq65 N rb xs ys m os ps)) (hL : Runs cfxg 0 4 none (.loop (loopOf cfxg.P 4 0)) (tta_T ds ms n k rb TC TD TM 0 [] [] 0 0) (tta_H ds ms n k rb TC TD TM 0 [] [] 0 0) (.exit 0) (tta_T3 ds ms n k rb TC TD TM (N : Int) xs ys N N) (tta_H3 ds ms n k rb TC TD TM (N : Int) xs ys N N)) (hL2 : Runs cfxg 0 8 none (.loop (loopOf cfxg.P 4 1)) (ttb_T ds ms n k rb TC TD TM N xs ys os ps m 0) (ttb_H ds ms n k rb TC TD TM N xs ys os ps m 0) (.exit 2) (ttf_T1 ds ms n k rb TC TD TM N xs ys os ps m (N : Int)) (ttf_H1 ds ms n k rb TC TD TM N xs ys os ps m (N : Int))) (hL3 : Runs cfxg 0 8 none (.loop (loopOf cfxg.P 4 3)) (ttg_T ds ms n k rb TC TD TM N xs ys os ps m 0) (ttg_H ds ms n k rb TC TD TM N xs ys os ps m 0) (.exit 6) (tti_T1 ds ms n k rb TC TD TM N xs ys os ps m (m : Int)) (tti_H1 ds ms n k rb TC TD TM N xs ys os ps m (m : Int)))  : Meets cfxg 0 4 [.slo 1 n, .slo 2 k, .raw (.int .u16 rb)] (zq45 TC ds TD ms TM) (V.raw (.bool true)) (zq57 TC ds TD ms TM) := by
  refine Meets.post (meets_ev cfxg_mixed cfxg_call zz zb (n := 40) (ans := [Ans.go, Ans.loop (Ex.exit 0) (zq10 n k rb N) (zq46 TC ds TD ms TM rb xs ys), Ans.reth (V.tup [.slo 6 N, .slo 7 m, iV 0]) (zq44 TC ds TD ms TM rb xs ys os ps), zF, zF, Ans.loop (Ex.exit 2) (zq16 n k rb N m) (zq44 TC ds TD ms TM rb xs ys os ps), Ans.loop (Ex.exit 6) (zq15 n k rb N m) (zq44 TC ds TD ms TM rb xs ys os ps), Ans.reth (V.raw (.bool true)) (zq44 TC ds TD ms TM rb xs ys os ps)]) (v := V.raw (.bool true)) (h' := (zq44 TC ds TD ms TM rb xs ys os ps)) (cons := [(inR IntKind.i64 rb), ((951 : Int) ≠ (0 : Int)), (Runs cfxg 0 4 none (.loop (loopOf cfxg.P 4 0)) (zq25 n k rb) (zq54 TC ds TD ms TM rb) (Ex.exit 0) (zq10 n k rb N) (zq46 TC ds TD ms TM rb xs ys)), (Meets cfxg 0 15 [.slo 4 N, .slo 5 N, pV (rb.tmod 951) 0] (zq46 TC ds TD ms TM rb xs ys) (V.tup [.slo 6 N, .slo 7 m, iV 0]) (zq44 TC ds TD ms TM rb xs ys os ps)), zN, ((!decide ((N : Int) = (N : Int))) = false), (Runs cfxg 0 8 none (.loop (loopOf cfxg.P 4 1)) (zq6 n k rb N m) (zq44 TC ds TD ms TM rb xs ys os ps) (Ex.exit 2) (zq16 n k rb N m) (zq44 TC ds TD ms TM rb xs ys os ps)), (Runs cfxg 0 8 none (.loop (loopOf cfxg.P 4 3)) (zq17 n k rb N m) (zq44 TC ds TD ms TM rb xs ys os ps) (Ex.exit 6) (zq15 n k rb N m) (zq44 TC ds TD ms TM rb xs ys os ps)), (Meets cfxg 0 16 [] (zq44 TC ds TD ms TM rb xs ys os ps) (V.raw (.bool true)) (zq44 TC ds TD ms TM rb xs ys os ps))]) zk
    ⟨inR_i64 zo zo, zds, (by
      refine Runs.pre (fun b e => by cases e) (fun RT RH => ?_) (hL)
      exact reshape2g (lim := 0) 4 (t := (zq25 n k rb)) (h := (zq54 TC ds TD ms TM rb)) (by decide) [none, none] zk zk (by repeat first | exact ents_nil | refine ents_none ?_ | refine ents_raw (ints_all _) rfl rfl ?_ | refine ents_raw (bools_all _) rfl rfl ?_ | refine ents_raw (mix_all _ _) rfl rfl ?_ | refine ents_raw (mixk_all _ _) rfl rfl ?_ | refine ents_say rfl rfl rfl rfl ?_ | refine ents_nilC rfl rfl ?_) RT RH), (by exact up_meets (below2 (lim := 0) rfl rfl 4 5 (N := [some (.cells (ints os) 62 (.row 6)), some (.cells (ints ps) 71 (.row 2))]) h1 (ints_all _) (ints_all _) rfl (new_rows2 _ _ _ _ _ _) rfl rfl zz) (by simp)), rfl, zdf, (by
      refine Runs.pre (fun b e => by cases e) (fun RT RH => ?_) (hL2)
      exact reshape2g (lim := 0) 8 (t := (zq6 n k rb N m)) (h := (zq44 TC ds TD ms TM rb xs ys os ps)) (by decide) [] zk zk (by repeat first | exact ents_nil | refine ents_none ?_ | refine ents_raw (ints_all _) rfl rfl ?_ | refine ents_raw (bools_all _) rfl rfl ?_ | refine ents_raw (mix_all _ _) rfl rfl ?_ | refine ents_raw (mixk_all _ _) rfl rfl ?_ | refine ents_say rfl rfl rfl rfl ?_ | refine ents_nilC rfl rfl ?_) RT RH), (by
      refine Runs.pre (fun b e => by cases e) (fun RT RH => ?_) (hL3)
      exact reshape2g (lim := 0) 8 (t := (zq17 n k rb N m)) (h := (zq44 TC ds TD ms TM rb xs ys os ps)) (by decide) [] zk zk (by repeat first | exact ents_nil | refine ents_none ?_ | refine ents_raw (ints_all _) rfl rfl ?_ | refine ents_raw (bools_all _) rfl rfl ?_ | refine ents_raw (mix_all _ _) rfl rfl ?_ | refine ents_raw (mixk_all _ _) rfl rfl ?_ | refine ents_say rfl rfl rfl rfl ?_ | refine ents_nilC rfl rfl ?_) RT RH), (by exact ret_laid (works05 TC) rfl rfl zz), trivial⟩) zk (fun RT RH => reshape2g (lim := 0) 3 (by decide) [] zk zk (by exact (ents_say rfl rfl rfl rfl (ents_raw (mixk_all _ _) rfl rfl (ents_raw (mixk_all _ _) rfl rfl (ents_nil))))) RT RH)
theorem ttl_no (ds ms : List Int) (n k : Nat) (rb : Int) (TC TD TM : Nat) (hdl : n * 2 ≤ ds.length) (hml : k * 2 ≤ ms.length) (hrb : 0 ≤ rb ∧ rb ≤ 65535) (hrt : 0 ≤ rb.tmod 951 ∧ rb.tmod 951 ≤ 950) (N : Nat) (hN2 : N ≤ 6) (xs ys : List Int) (hxl : xs.length = N * 2) (hyl : ys.length = N * 6) (h1 : Meets cfx 0 15 [.slo 0 N, .slo 1 N, .raw (.agg #[.int .i64 (rb.tmod 951), .int .i64 0])] [some (.cells (ints xs) 65 .ro), some (.cells (ints ys) 62 .ro)] (.raw (.tuple #[.slice none 0 0, .slice none 0 0, .int .i64 4])) [some (.cells (ints xs) 65 .ro), some (.cells (ints ys) 62 .ro)]) (hL : Runs cfxg 0 4 none (.loop (loopOf cfxg.P 4 0)) (tta_T ds ms n k rb TC TD TM 0 [] [] 0 0) (tta_H ds ms n k rb TC TD TM 0 [] [] 0 0) (.exit 0) (tta_T3 ds ms n k rb TC TD TM (N : Int) xs ys N N) (tta_H3 ds ms n k rb TC TD TM (N : Int) xs ys N N))  : Meets cfxg 0 4 [.slo 1 n, .slo 2 k, .raw (.int .u16 rb)] (zq45 TC ds TD ms TM) (V.raw (.bool true)) (zq57 TC ds TD ms TM) := by
  refine Meets.post (meets_ev cfxg_mixed cfxg_call zz zb (n := 40) (ans := [Ans.go, Ans.loop (Ex.exit 0) (zq10 n k rb N) (zq46 TC ds TD ms TM rb xs ys), Ans.reth (V.raw (.tuple { toList := [Value.slice none 0 0, Value.slice none 0 0, .int .i64 4] })) (zq46 TC ds TD ms TM rb xs ys), zT, zT, zT, zT, Ans.reth (V.raw (.bool true)) (zq46 TC ds TD ms TM rb xs ys), zT]) (v := V.raw (.bool true)) (h' := (zq46 TC ds TD ms TM rb xs ys)) (cons := [(inR IntKind.i64 rb), ((951 : Int) ≠ (0 : Int)), (Runs cfxg 0 4 none (.loop (loopOf cfxg.P 4 0)) (zq25 n k rb) (zq54 TC ds TD ms TM rb) (Ex.exit 0) (zq10 n k rb N) (zq46 TC ds TD ms TM rb xs ys)), (Meets cfxg 0 15 [.slo 4 N, .slo 5 N, pV (rb.tmod 951) 0] (zq46 TC ds TD ms TM rb xs ys) (V.raw (.tuple { toList := [Value.slice none 0 0, Value.slice none 0 0, .int .i64 4] })) (zq46 TC ds TD ms TM rb xs ys)), zY, zY, zY, zY, (Meets cfxg 0 16 [] (zq46 TC ds TD ms TM rb xs ys) (V.raw (.bool true)) (zq46 TC ds TD ms TM rb xs ys)), zY]) zk
    ⟨inR_i64 zo zo, zds, (by
      refine Runs.pre (fun b e => by cases e) (fun RT RH => ?_) (hL)
      exact reshape2g (lim := 0) 4 (t := (zq25 n k rb)) (h := (zq54 TC ds TD ms TM rb)) (by decide) [none, none] zk zk (by repeat first | exact ents_nil | refine ents_none ?_ | refine ents_raw (ints_all _) rfl rfl ?_ | refine ents_raw (bools_all _) rfl rfl ?_ | refine ents_raw (mix_all _ _) rfl rfl ?_ | refine ents_raw (mixk_all _ _) rfl rfl ?_ | refine ents_say rfl rfl rfl rfl ?_ | refine ents_nilC rfl rfl ?_) RT RH), (by exact up_meets (below2 (lim := 0) rfl rfl 4 5 (N := []) h1 (ints_all _) (ints_all _) rfl zn rfl rfl zz) (by simp)), rfl, rfl, rfl, rfl, (by exact ret_laid (works05 TC) rfl rfl zz), rfl, trivial⟩) zk (fun RT RH => reshape2g (lim := 0) 3 (by decide) [] zk zk (by exact (ents_say rfl rfl rfl rfl (ents_raw (mixk_all _ _) rfl rfl (ents_raw (mixk_all _ _) rfl rfl (ents_nil))))) RT RH)
theorem lawTopTouched (ds ms : List Int) (n k : Nat) (rb : Int) (TC TD TM : Nat) (hdl : n * 2 ≤ ds.length) (hml : k * 2 ≤ ms.length) (hrb : 0 ≤ rb ∧ rb ≤ 65535) (hrt : 0 ≤ rb.tmod 951 ∧ rb.tmod 951 ≤ 950) (hd : ∀ j : Nat, 0 ≤ at' ds j ∧ at' ds j ≤ 65535) (hm : ∀ j : Nat, -2147483648 ≤ at' ms j ∧ at' ms j ≤ 2147483647) : Meets cfxg 0 4 [.slo 1 n, .slo 2 k, .raw (.int .u16 rb)] (zq45 TC ds TD ms TM) (.raw (.bool true)) (zq45 TC ds TD ms TM) := by
  have hN : ∃ N : Nat, N ≤ n ∧ N ≤ 6 ∧ (N = n ∨ N = 6) := by
    rcases Nat.lt_or_ge 6 n with h | h
    · exact ⟨6, by omega, by omega, .inr rfl⟩
    · exact ⟨n, by omega, h, .inl rfl⟩
  obtain ⟨N, hN1, hN2, hN3⟩ := hN
  have hL := tta_loop ds ms n k rb TC TD TM hdl hml hrb hrt hd hm N hN1 hN2 hN3
  have hg : M.allB (M.tB N) (M.tM ds ms k N) N = true := M.t_all hd
  have hx := M.tB_len N
  have hy := M.tM_len ds ms k N
  have hb : M.bncB (rb.tmod 951) 0 = true := by
    unfold M.bncB
    rw [Bool.and_eq_true, M.btw_iff, M.btw_iff]
    omega
  by_cases hs : M.sE (M.tB N) (M.tM ds ms k N) N N (rb.tmod 951) 0 = 0
  · obtain ⟨g1, g2, s, g3⟩ := M.sE_ok hs
    have m1 := Settle_yes (M.tB N) (M.tM ds ms k N) N 65 62 (rb.tmod 951) 0 zo zo g1 g2 g3
    have K := (M.Kept.start (xs := M.tB N) (ys := M.tM ds ms k N) (n := N) (by omega) (by rw [M.allB_take _ _ N (by omega)]; exact hg)).outr g3
    have hm8 := M.m_bd (show N ≤ 8 by omega) (by omega) g3
    have hD : ∀ j : Nat, chkDisc (at' (M.tM ds ms k N) (j * 6)) (at' (M.tM ds ms k N) (j * 6 + 1)) 2946 = 0 := fun j => by
      rcases Nat.lt_or_ge j N with h | h
      · obtain ⟨e1, e2, _⟩ := M.tM_at (ds := ds) (ms := ms) (k := k) h
        rw [e1, e2]
        have d1 := M.div4 (hd (j * 2))
        have d2 := M.div4 (hd (j * 2 + 1))
        exact chkDisc_fit zo zo zo
      · have z : ∀ q, N * 6 ≤ q → at' (M.tM ds ms k N) q = 0 := fun q hq => by
          unfold at'
          rw [List.getD_eq_getElem?_getD, List.getElem?_eq_none (by omega)]
          rfl
        rw [z _ (by omega), z _ (by omega)]
        exact chkDisc_fit zo zo zo
    have w : s.m ≤ 100 := by omega
    have hL2 := ttb_loop ds ms n k rb TC TD TM hdl hml hrb hrt N hN2 (M.tB N) (M.tM ds ms k N) s.os s.ps s.m w hx hy K.len K.plen m1 hL hD (fun j hj => K.still j hj) (fun j hj h => M.apt_kept K hj h)
    have hL3 := ttg_loop ds ms n k rb TC TD TM hdl hml hrb hrt N hN2 (M.tB N) (M.tM ds ms k N) s.os s.ps s.m w hx hy K.len K.plen m1 hL hL2 hD (fun t ht => M.met_near K ht)
    exact ttl_yes ds ms n k rb TC TD TM hdl hml hrb hrt N hN2 (M.tB N) (M.tM ds ms k N) s.os s.ps s.m w hx hy K.len K.plen m1 hL hL2 hL3
  · have m1 := Settle_no (M.tB N) (M.tM ds ms k N) N N 65 62 (rb.tmod 951) 0 zo zo hs
    rw [M.sE_over (by omega) hg hb hs] at m1
    exact ttl_no ds ms n k rb TC TD TM hdl hml hrb hrt N hN2 (M.tB N) (M.tM ds ms k N) hx hy m1 hL
end Go.Proofs.YteefjegampdpoaaDoor
end
section
namespace Go.Proofs.YteefjegampdpoaaDoor.K
open Go Go.Deep Go.ChangeShapes Go.WideShapes Go.ChangeAt Go.RowKit
def flatG (P : Program) : Nat → TypeId → Option (List (Option IntKind))
  | 0, _ => none
  | d + 1, t => match P.underlying t with
    | some (.array n e) => match flatK P d e with
      | some l => if P.cellsOf e = l.length ∧ n * l.length = P.cellsOf t then some (List.replicate n l).flatten else none
      | none => none
    | _ => flatK P (d + 1) t
section
variable {H : Type} {enc : TypeId × Value → H} {P : Program} {w : World} {base : Nat} {spare : Nat → Bool} {held : Bool}
theorem flat_cellsG : ∀ (d : Nat) (fuel : Nat) (t : TypeId) (l : List (Option IntKind)) (cs : List Value) (x : DataW H × List MemPlace), flatG P d t = some l → DataW.trod enc P w base spare held fuel t cs = some x → AllOk l cs
  | 0, fuel, t, l, cs, x, h, hx => by simp [flatG] at h
  | d + 1, fuel, t, l, cs, x, h, hx => by
    simp only [flatG] at h
    split at h
    · rename_i n e hu
      split at h
      · rename_i m hm
        split at h
        · rename_i hh
          obtain ⟨h1, h2⟩ := hh
          simp only [Option.some.injEq] at h
          subst h
          obtain ⟨xs, q, _, rfl, hl, hxl, hf⟩ := DataW.trod_array hu hx
          have key : ∀ k, k ≤ n → AllOk (List.replicate k m).flatten (cs.take (k * m.length)) := fun k => by
            induction k with
            | zero => intro _; simp [AllOk]
            | succ k ih =>
              intro hk
              have hx1 := hf k (by omega)
              rw [List.getElem?_eq_getElem (by omega), h1] at hx1
              have a1 := flat_cells d q e m _ _ hm hx1
              have e1 : (List.replicate (k + 1) m).flatten = (List.replicate k m).flatten ++ m := by
                rw [List.replicate_succ', List.flatten_append]; simp
              rw [e1, Nat.succ_mul, List.take_add]
              exact (ih (by omega)).append a1
          have := key n (Nat.le_refl _)
          rwa [List.take_of_length_le (by omega)] at this
        · cases h
      · cases h
    · exact flat_cells (d + 1) fuel t l cs x h hx
theorem open_mixg {r : Reach} {b0 : Nat} {t e : TypeId} (ks : List (Option IntKind)) {v : Value} {dd : DataW H} {p : List MemPlace} (hs : P.underlying t = some (.slice e)) (hl : flatG P 9 e = some ks) (hc : P.cellsOf e = ks.length) (hn : 0 < ks.length) (hv : Value.okWide P w r b0 t v) (h : DataW.Trod enc P w base spare held t v dd p) :
    ∃ (l : E2.Loc) (m : Nat) (zs : List Int) (T : TypeId), v = E2.slcOf l m ∧ zs.length = m * ks.length ∧ (∀ k, k < zs.length → ∃ u, cellOkW (ks.getD (k % ks.length) none) u ∧ E2.at' zs k = numB u) ∧ ∀ ρ, E2.CellsOk ρ l w (E2.mixk ks zs) T .ro := by
  generalize hnn : ks.length = n at *
  obtain ⟨a0, len0, cap0, rfl⟩ := okWide_slice hs hv
  obtain ⟨fuel, hf⟩ := h
  rcases DataW.trod_slice hs hf with ⟨h0, _⟩ | ⟨a, len, cap, elems, rest, k, _, h0, _, hb, hlc, hcm, hlen, hel, _, _⟩
  · have : Value.slice a0 len0 cap0 = .slice none 0 0 := by simpa [Value.cells] using h0
    rw [this]
    exact ⟨⟨0, [], [], 0, true⟩, 0, [], 0, rfl, by simp, fun k hk => absurd hk (Nat.not_lt_zero k), fun ρ => ⟨fun _ => rfl, fun hq => (by cases hq), fun sz hq => (by cases hq)⟩⟩
  · have hvv : Value.slice a0 len0 cap0 = .slice (some a) len cap := by simpa [Value.cells] using h0
    rw [hvv] at hv ⊢
    have hok : w.has P r b0 a e cap := by
      unfold Value.okWide at hv
      rw [hs] at hv
      simp only [Cell.okWide, hs, Cell.ok] at hv
      exact hv.2.2
    obtain ⟨_, hspot, row, size, hsh, hlies⟩ := hok
    obtain ⟨c, fr, hblk, rfl⟩ : ∃ c fr, w.heap[a.block]? = some (.cells c row fr) ∧ size = c.size := by
      unfold World.shape? at hsh
      split at hsh
      · rename_i c elem fr hb
        simp only [Option.some.injEq, Prod.mk.injEq] at hsh
        obtain ⟨rfl, rfl⟩ := hsh
        exact ⟨c, fr, hb, rfl⟩
      · cases hsh
    have hoff : a.off ≤ c.size := Nat.le_trans (liesAt_le _ _ _ _ _ _ hlies) (Nat.div_mul_le_self _ _)
    have hcell : ∀ i j, i < len → j < n → ∃ u, c[a.off + (i * n + j)]? = some u ∧ cellOkW (ks.getD j none) u := by
      intro i j hi hj
      have h1 := hel i hi
      rw [List.getElem?_eq_getElem (by omega)] at h1
      obtain ⟨cs, h2, h3⟩ := Option.bind_eq_some_iff.1 h1
      rw [hc] at h2
      obtain ⟨z, h4, h5⟩ := allOk_getW ks cs (flat_cellsG 9 _ _ _ _ _ hl h3) j (by omega)
      obtain ⟨_, _, h6⟩ := World.cells?_some h2
      have h7 := h6 j hj
      rw [Deep.add_add] at h7
      have h8 : w.cell? (a.add (i * n + j)) = c[a.off + (i * n + j)]? := by
        unfold World.cell? Addr.add
        by_cases hz : i * n + j = 0
        · rw [if_pos hz, hblk, hz]; simp [hspot]
        · rw [if_neg hz]; simp [hblk]
      exact ⟨z, by rw [← h8, h7]; exact h4, h5⟩
    have hat : ∀ k, k < len * n → ∃ u, c[a.off + k]? = some u ∧ cellOkW (ks.getD (k % n) none) u := by
      intro k hk
      have hi : k / n < len := by rw [Nat.div_lt_iff_lt_mul hn]; exact hk
      have := hcell (k / n) (k % n) hi (Nat.mod_lt _ hn)
      have e1 : k / n * n + k % n = k := by
        have := Nat.div_add_mod k n
        rw [Nat.mul_comm] at this
        exact this
      rwa [e1] at this
    have hfit : a.off + len * n ≤ c.size := by
      rcases Nat.eq_zero_or_pos (len * n) with h0 | h0
      · omega
      · obtain ⟨z, hz, _⟩ := hat (len * n - 1) (by omega)
        have := (Array.getElem?_eq_some_iff.1 hz).1
        omega
    generalize hzs : ((c.toList.drop a.off).take (len * n)).map numB = zs
    have hzl : zs.length = len * n := by rw [← hzs]; simp; omega
    have hnum : ∀ k u, k < len * n → c[a.off + k]? = some u → E2.at' zs k = numB u := by
      intro k u hk hu
      rw [← hzs]
      have : (((c.toList.drop a.off).take (len * n)).map numB)[k]? = some (numB u) := by
        rw [List.getElem?_map, List.getElem?_take, if_pos hk, List.getElem?_drop, Array.getElem?_toList, hu]; rfl
      unfold E2.at'
      rw [List.getD_eq_getElem?_getD, this]
      rfl
    refine ⟨⟨a.block, c.toList.take a.off, c.toList.drop (a.off + len * n), cap, false⟩, len, zs, row, ?_, hzl, ?_, fun ρ => ⟨fun hq => (by cases hq), fun _ => ⟨fr, ?_, fun hq => absurd rfl hq⟩, fun sz hq => (by cases hq)⟩⟩
    · unfold E2.slcOf
      rw [if_neg (by simp)]
      have e1 : (c.toList.take a.off).length = a.off := by simp; omega
      simp only [e1]
      cases a with
      | mk b o s => simp only at hspot; subst hspot; rfl
    · intro k hk
      rw [hzl] at hk
      obtain ⟨u, h1, h2⟩ := hat k hk
      exact ⟨u, h2, hnum k u hk h1⟩
    · have e2 : E2.concs ρ (E2.mixk ks zs) = (c.toList.drop a.off).take (len * n) := by
        rw [E2.concs_map]
        apply List.ext_getElem?
        intro k
        rw [List.getElem?_map, List.getElem?_take]
        by_cases hk : k < len * n
        · obtain ⟨u, h1, h2⟩ := hat k hk
          rw [E2.mixk_get ks zs (by omega), if_pos hk, List.getElem?_drop, Array.getElem?_toList, h1, hnn]
          show some (E2.cellW zs _ k) = _
          rw [cellW_num h2 (hnum k u hk h1)]
        · rw [if_neg hk, List.getElem?_eq_none (by rw [E2.mixk_len]; omega)]
          rfl
      rw [e2]
      have e3 : c.toList.take a.off ++ (c.toList.drop a.off).take (len * n) ++ c.toList.drop (a.off + len * n) = c.toList := by
        rw [List.append_assoc, ← List.drop_drop, List.take_append_drop, List.take_append_drop]
      show w.heap[a.block]? = some (.cells (c.toList.take a.off ++ (c.toList.drop a.off).take (len * n) ++ c.toList.drop (a.off + len * n)).toArray row fr)
      rw [e3]
      exact hblk
end
theorem rng_two {q : IntKind} {zs : List Int} {m : Nat} {lo hi : Int} (h0 : lo ≤ 0 ∧ 0 ≤ hi) (hq : ∀ z, (Lit.int q z).wf = true → lo ≤ z ∧ z ≤ hi) (hl : zs.length = m * [some q, some q].length) (h : ∀ k, k < zs.length → ∃ u, cellOkW ([some q, some q].getD (k % [some q, some q].length) none) u ∧ E2.at' zs k = numB u) : zs.length = m * 2 ∧ ∀ j : Nat, lo ≤ E2.at' zs j ∧ E2.at' zs j ≤ hi := by
  refine ⟨hl, fun j => ?_⟩
  rcases Nat.lt_or_ge j zs.length with hj | hj
  · obtain ⟨u, hu, e⟩ := h j hj
    have e0 : [some q, some q].getD (j % [some q, some q].length) none = some q := by
      rcases (show j % 2 = 0 ∨ j % 2 = 1 by omega) with e | e <;> (show [some q, some q].getD (j % 2) none = some q; rw [e]; rfl)
    rw [e0] at hu
    obtain ⟨z, rfl, hz⟩ := hu
    rw [e]
    exact hq z hz
  · have e : E2.at' zs j = 0 := by
      unfold E2.at'
      rw [List.getD_eq_getElem?_getD, List.getElem?_eq_none hj]
      rfl
    rw [e]
    exact h0
end Go.Proofs.YteefjegampdpoaaDoor.K
end
section
namespace Go.Proofs.YteefjegampdpoaaDoor
open Go Go.ChangeShapes Go.WideShapes Go.ChangeAt Go.RowKit
theorem own : ownKnob Tryd.prog.godebug = none := by kernel_rfl
theorem laidOut : laidOutB Tryd.prog = true := by kernel_rfl
noncomputable def laidWorld (os : Os) : World :=
  { World.holding Tryd.prog os ⟨#[], #[], []⟩ with heap := (World.holding Tryd.prog os ⟨#[], #[], []⟩).heap.modify 0 fun
      | .cells _ t frozen => .cells codesL.toArray t frozen
      | o => o }
end Go.Proofs.YteefjegampdpoaaDoor
end
section
namespace Go.Proofs.YteefjegampdpoaaDoor
open Go Go.ChangeShapes Go.WideShapes Go.ChangeAt Go.RowKit Go.Proofs.YteefjegampdpoaaDoor.E2
namespace topTouched
theorem readable : ∀ t ∈ Tryd.f4.params.toList, Tryd.prog.readableRec t = true ∧ t < Tryd.prog.types.size := fun t ht => by
  have h := List.all_eq_true.1 (show (Tryd.f4.params.toList.all fun t => Tryd.prog.readableRec t && decide (t < Tryd.prog.types.size)) = true by kernel_rfl) t ht
  rw [Bool.and_eq_true, decide_eq_true_eq] at h
  exact h
theorem contract (H : Type) (enc : TypeId × Value → H) (W : World) (base : Nat) (args : Array Value) (ds gs : List (DataW H)) (before : List MemPlace)
    (hval : ∀ (j : Nat) t v, Tryd.f4.params[j]? = some t → args[j]? = some v → Value.okWide Tryd.prog W .any base t v)
    (hW : DataW.Whole enc Tryd.prog Tryd.f4.params.toList Rows.topTouchedSpec.vars false W args.toList ds gs before) (hL : laidMetH Tryd.prog Rows.topTouchedRow.laid W) :
    Calls Tryd.prog 4 args W fun e W' => ∃ v, e = .returned v ∧ Rows.topTouchedSpec.post enc Tryd.prog Tryd.f4 false true false false W args v W' := by
  have hW' := hW
  obtain ⟨p, q, hA0, hV, rfl, hfz, hnd⟩ := hW
  have hA : DataW.TrodAll enc Tryd.prog W 0 (fun _ => true) true Tryd.f4.params.toList args.toList ds p := hA0
  rw [Tryd.params4] at hA hval
  obtain ⟨v0, vs0, d0, ds0, p0, q0, hargs, rfl, rfl, h0, r0⟩ := trodAll_cons hA
  obtain ⟨v1, vs1, d1, ds1, p1, q1, rfl, rfl, rfl, h1, r1⟩ := trodAll_cons r0
  obtain ⟨v2, vs2, d2, ds2, p2, q2, rfl, rfl, rfl, h2, r2⟩ := trodAll_cons r1
  obtain ⟨rfl, rfl, rfl⟩ := trodAll_nil r2
  obtain rfl : args = #[v0, v1, v2] := by cases args; simp_all
  obtain ⟨rfl, rfl⟩ := trodVars_none hV
  obtain ⟨da_l, da_m, da_z, da_T, rfl, da_len, da_rng, da_ok⟩ := K.open_mixk (P := Tryd.prog) [some .u16, some .u16] Tryd.underlying52 (by kernel_rfl) (by kernel_rfl) (by decide) (hval 0 52 v0 rfl rfl) h0
  obtain ⟨ma_l, ma_m, ma_z, ma_T, rfl, ma_len, ma_rng, ma_ok⟩ := K.open_mixg (P := Tryd.prog) [some .i32, some .i32] Tryd.underlying53 (by kernel_rfl) (by kernel_rfl) (by decide) (hval 1 53 v1 rfl rfl) h1
  obtain ⟨r, rfl, _, _, xr⟩ := open_int Tryd.underlying54 (hval 2 54 v2 rfl rfl) h2
  have yr := bounds_u16 xr
  clear hA0
  obtain ⟨TC, hTC⟩ := codes_at hL
  have hR := calls_atG (args := [.slo 1 da_m, .slo 2 ma_m, .raw (.int .u16 r)]) (x := .bool true) (lawTopTouched da_z ma_z da_m ma_m r TC da_T ma_T (Nat.le_of_eq (K.rng_two ⟨by decide, by decide⟩ (fun _ h => bounds_u16 h) da_len da_rng).1.symm) (Nat.le_of_eq (K.rng_two ⟨by decide, by decide⟩ (fun _ h => bounds_i32 h) ma_len ma_rng).1.symm) ⟨yr.1, yr.2⟩ ⟨Int.tmod_nonneg 951 yr.1, by have := Int.tmod_lt_of_pos r (show (0 : Int) < 951 by decide); omega⟩ (K.rng_two ⟨by decide, by decide⟩ (fun _ h => bounds_u16 h) da_len da_rng).2 (K.rng_two ⟨by decide, by decide⟩ (fun _ h => bounds_i32 h) ma_len ma_rng).2) [(E2.Loc.at 0), da_l, ma_l] W rfl ⟨rfl, rfl⟩ (by simp) (E2.rowsAt_cons (by decide) hTC (E2.rowsAt_cons (E2.mixk_all _ _) da_ok (E2.rowsAt_cons (E2.mixk_all _ _) ma_ok (E2.rowsAt_nil)))) rfl
  refine Calls.mono hR fun e W' hw => ?_
  exact ⟨_, hw.1, K.law_post laidOut readable (by kernel_rfl) Tryd.underlying4 rfl hW' rfl hw.2⟩
theorem laid_met (os : Os) : laidMet Tryd.prog Rows.topTouchedRow.laid ((laidWorld os).forCall (fun _ _ => 0) ⟨#[], #[.slice none 0 0, .slice none 0 0, .int .u16 0], []⟩).memory :=
  laidMet_of_run' 8 (by kernel_rfl) (by kernel_rfl)
theorem reads (os : Os) {H : Type} (enc : TypeId × Value → H) : ∃ places, DataW.whole enc Tryd.prog ((laidWorld os).forCall (fun _ _ => 0) ⟨#[], #[.slice none 0 0, .slice none 0 0, .int .u16 0], []⟩).memory Tryd.f4.params.toList Rows.topTouchedSpec.vars false (#[.slice none 0 0, .slice none 0 0, .int .u16 0] : Array Value).toList 8 = some ([.nil, .nil, .lit (.int .u16 0)], [], places) :=
  ⟨[], by kernel_rfl⟩
theorem lifted (os : Os) (started : os.Started) (H : Type) (enc : TypeId × Value → H) (F : Stop.Interp) :
    ReturnsInHanded {} Tryd.checked os 4 .any ((OpenSpec.ofChange Rows.topTouchedSpec).preRow enc Tryd.prog Tryd.f4 Rows.topTouchedRow.domain false Rows.topTouchedRow.laid) (((OpenSpec.ofChange Rows.topTouchedSpec).at F).post enc Tryd.prog Tryd.f4 false true false false) := by
  obtain ⟨places, hx⟩ := reads os enc
  refine returnsInHanded_of_row (C := Tryd.checked) (s := OpenSpec.ofChange Rows.topTouchedSpec) own started (by kernel_rfl) Tryd.func4
    (witness_row_at (enc := enc) (C := Tryd.checked) false (laidWorld os) #[.slice none 0 0, .slice none 0 0, .int .u16 0] rfl (by kernel_rfl) (by kernel_rfl) (by kernel_rfl)
      (OpenSpec.preRow_of_cond 8 hx (by kernel_rfl) (fun k hk => by cases hk) (by kernel_rfl) (laid_met os))) ?_
  intro W base args ds gs before hval hW _ _ _ hL _ _
  exact contract H enc W base args ds gs before hval hW hL
theorem said : Rows.TopTouchedSaid :=
  OpenClaim.holds_of_cond 4 Tryd.f4 rfl rfl rfl rfl rfl rfl rfl ⟨rfl, rfl, rfl, rfl, rfl⟩ rfl rfl rfl rfl rfl (by kernel_rfl) Tryd.func4 (by kernel_rfl)
    (of_decide_eq_true (by kernel_rfl)) (by unfold Func.isWrapper; first | (rw [if_pos (by decide +kernel)]; kernel_rfl) | (rw [if_neg (by decide +kernel)]; exact ⟨rfl, rfl⟩))
    (fun os started H enc _ F => by rw [OpenClaim.pre_eq_preRow]; exact lifted os started H enc F)
theorem plain (f : FuncId) (fn : Func) (hf : Tryd.pinned.checked.prog.funcNamed Tryd.f4.name = some f) (hfn : Tryd.pinned.checked.prog.funcs[f]? = some fn) :
    false = Tryd.pinned.checked.prog.looks [] ∧ ∀ (j : Nat) t, fn.params[j]? = some t → Tryd.pinned.checked.prog.wantsStandIn t = false := by
  obtain rfl : f = 4 := Option.some.inj ((show Tryd.prog.funcNamed Tryd.f4.name = some 4 by kernel_rfl).symm.trans hf) |>.symm
  obtain rfl : fn = Tryd.f4 := (Option.some.inj (Tryd.func4.symm.trans hfn)).symm
  refine ⟨by kernel_rfl, fun j t ht => ?_⟩
  have hm : t ∈ Tryd.f4.params.toList := by simpa using Array.mem_of_getElem? ht
  have hall : (Tryd.f4.params.toList.all fun u => !Tryd.prog.wantsStandIn u) = true := by kernel_rfl
  exact (show Tryd.prog.wantsStandIn t = false by simpa using List.all_eq_true.1 hall t hm)
theorem card : Rows.TopTouchedCardSaid :=
  Claim7.holds_tied_plain_at .later [] _ _ _ _ said (fun _ h => by cases h) (by kernel_rfl) (fun _ h => by cases h) topTouched_row_tie rfl ⟨rfl, rfl⟩ (by kernel_rfl) rfl plain (by kernel_rfl)
end topTouched
end Go.Proofs.YteefjegampdpoaaDoor
end
