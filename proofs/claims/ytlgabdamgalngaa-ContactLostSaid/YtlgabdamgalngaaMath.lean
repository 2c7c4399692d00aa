/-
  The plain numbers of layer 1: parting, as integers. No program is named here.
-/
set_option linter.unusedVariables false
set_option linter.unusedSimpArgs false
namespace Go.Proofs.Ytlgabdamgalngaa.M

/-- The quotient of 'parted': the whole number w with -d/2 <= n - w d < d/2. -/
def whole (n d : Int) : Int := (2 * n + d) / (2 * d)
def rest (n d : Int) : Int := n - whole n d * d

theorem rest_lo (n d : Int) (h : 0 < d) : -d ≤ 2 * rest n d := by
  unfold rest whole
  have h1 := Int.mul_ediv_add_emod (2 * n + d) (2 * d)
  have h2 := Int.emod_nonneg (2 * n + d) (show (2 * d : Int) ≠ 0 by omega)
  have e : 2 * d * ((2 * n + d) / (2 * d)) = 2 * ((2 * n + d) / (2 * d) * d) := by rw [Int.mul_assoc, Int.mul_comm d]
  omega
theorem rest_hi (n d : Int) (h : 0 < d) : 2 * rest n d < d := by
  unfold rest whole
  have h1 := Int.mul_ediv_add_emod (2 * n + d) (2 * d)
  have h3 := Int.emod_lt_of_pos (2 * n + d) (show (0:Int) < 2 * d by omega)
  have e : 2 * d * ((2 * n + d) / (2 * d)) = 2 * ((2 * n + d) / (2 * d) * d) := by rw [Int.mul_assoc, Int.mul_comm d]
  omega
theorem whole_rest (n d : Int) : whole n d * d + rest n d = n := by unfold rest; omega

/-- Only one number parts. -/
theorem whole_of (n d w : Int) (h : 0 < d) (h1 : -d ≤ 2 * (n - w * d)) (h2 : 2 * (n - w * d) < d) : w = whole n d := by
  unfold whole
  have : (2 * n + d) = 2 * (n - w * d) + d + 2 * d * w := by rw [Int.mul_sub, Int.mul_assoc 2 d w, Int.mul_comm d w]; omega
  rw [this, Int.add_mul_ediv_left _ _ (by omega), Int.ediv_eq_zero_of_lt (by omega) (by omega)]; omega
theorem rest_of (n d w r : Int) (h : 0 < d) (e : w * d + r = n) (h1 : -d ≤ 2 * r) (h2 : 2 * r < d) : w = whole n d ∧ r = rest n d := by
  have hr : r = n - w * d := by omega
  have hw := whole_of n d w h (by omega) (by omega)
  exact ⟨hw, by unfold rest; rw [← hw]; exact hr⟩

/-- The three ways of 'turf.part', from Go's own quotient and rest. -/
theorem part_up (n d : Int) (h : 0 < d) (h2 : d ≤ 2 * n.tmod d) : n.tdiv d + 1 = whole n d ∧ n.tmod d - d = rest n d := by
  have e := Int.mul_tdiv_add_tmod n d
  have hl := Int.tmod_lt_of_pos n h
  have e2 : (n.tdiv d + 1) * d = d * n.tdiv d + d := by rw [Int.add_mul, Int.mul_comm]; omega
  exact rest_of n d _ _ h (by omega) (by omega) (by omega)
theorem part_down (n d : Int) (h : 0 < d) (h2 : 2 * n.tmod d < -d) : n.tdiv d - 1 = whole n d ∧ n.tmod d + d = rest n d := by
  have e := Int.mul_tdiv_add_tmod n d
  have hl : -d < n.tmod d := by
    have h1 := Int.tmod_lt_of_pos (-n) h
    rw [Int.neg_tmod] at h1
    omega
  have e2 : (n.tdiv d - 1) * d = d * n.tdiv d - d := by rw [Int.sub_mul, Int.mul_comm]; omega
  exact rest_of n d _ _ h (by omega) (by omega) (by omega)
theorem part_mid (n d : Int) (h : 0 < d) (h1 : ¬ d ≤ 2 * n.tmod d) (h2 : ¬ 2 * n.tmod d < -d) : n.tdiv d = whole n d ∧ n.tmod d = rest n d := by
  have e := Int.mul_tdiv_add_tmod n d
  have e2 : (n.tdiv d) * d = d * n.tdiv d := by rw [Int.mul_comm]
  exact rest_of n d _ _ h (by omega) (by omega) (by omega)
theorem tdiv_bd (n d : Int) (h : 0 < d) (a b : Int) (ha : a ≤ 0) (hb : 0 ≤ b) (h1 : a ≤ n) (h2 : n ≤ b) : a ≤ n.tdiv d ∧ n.tdiv d ≤ b := by
  constructor
  · rcases Int.le_total 0 n with hn | hn
    · have := Int.tdiv_nonneg hn (Int.le_of_lt h); omega
    · have h3 : n.tdiv d = -((-n).tdiv d) := by rw [Int.neg_tdiv]; omega
      have := Int.tdiv_le_self (a := -n) d (by omega)
      omega
  · rcases Int.le_total 0 n with hn | hn
    · have := Int.tdiv_le_self (a := n) d hn; omega
    · have h3 : n.tdiv d = -((-n).tdiv d) := by rw [Int.neg_tdiv]; omega
      have := Int.tdiv_nonneg (a := -n) (by omega) (Int.le_of_lt h); omega
/-- A comparison. -/
def cmp (a b : Int) : Int := if a < b then -1 else if b < a then 1 else 0
theorem cmp_lt {a b : Int} (h : a < b) : cmp a b = -1 := by unfold cmp; rw [if_pos h]
theorem cmp_gt {a b : Int} (h : b < a) : cmp a b = 1 := by unfold cmp; rw [if_neg (by omega), if_pos h]
theorem cmp_eq (a : Int) : cmp a a = 0 := by unfold cmp; rw [if_neg (by omega), if_neg (by omega)]
/-- A coordinate. -/
def fits (a : Int) : Bool := decide (-4194304 ≤ a ∧ a ≤ 4194304)
theorem fits_yes {a : Int} (h : -4194304 ≤ a ∧ a ≤ 4194304) : fits a = true := by unfold fits; simpa using h
theorem fits_no {a : Int} (h : ¬ (-4194304 ≤ a ∧ a ≤ 4194304)) : fits a = false := by unfold fits; simpa using h
/-- The square of two places. -/
def sq (x y u v : Int) : Int := (u - x) * (u - x) + (v - y) * (v - y)
theorem mul_bd (a b A B : Int) (h1 : -A ≤ a) (h2 : a ≤ A) (h3 : -B ≤ b) (h4 : b ≤ B) : -(A * B) ≤ a * b ∧ a * b ≤ A * B := by
  have e1 : 0 ≤ (A - a) * (B + b) := Int.mul_nonneg (by omega) (by omega)
  have e2 : 0 ≤ (A + a) * (B - b) := Int.mul_nonneg (by omega) (by omega)
  have e3 : 0 ≤ (A - a) * (B - b) := Int.mul_nonneg (by omega) (by omega)
  have e4 : 0 ≤ (A + a) * (B + b) := Int.mul_nonneg (by omega) (by omega)
  constructor <;> grind
theorem sq_nonneg (a : Int) : 0 ≤ a * a := by
  rcases Int.le_total 0 a with h | h
  · exact Int.mul_nonneg h h
  · have := Int.mul_nonneg (a := -a) (b := -a) (by omega) (by omega); grind
theorem lt_or_ge' (a b : Int) : a < b ∨ b ≤ a := by omega
/-- Newton's step from above: not below, and less. -/
theorem newton_bd (a n : Int) (h1 : 1 ≤ a) (h3 : 0 ≤ n) (h : n < a * a) : 0 ≤ (a + n / a) / 2 ∧ (a + n / a) / 2 < a := by
  have e := Int.mul_ediv_add_emod n a
  have e1 := Int.emod_nonneg n (show a ≠ 0 by omega)
  have e2 := Int.ediv_nonneg h3 (show 0 ≤ a by omega)
  have e3 : n / a < a := by
    rcases lt_or_ge' (n / a) a with h | h'
    · exact h
    · have := Int.mul_le_mul_of_nonneg_left h' (show 0 ≤ a by omega)
      omega
  omega
theorem newton_ge (a n r : Int) (h1 : 1 ≤ a) (hr : 0 ≤ r) (h : r * r ≤ n) : r ≤ (a + n / a) / 2 := by
  have e := Int.mul_ediv_add_emod n a
  have e1 := Int.emod_lt_of_pos n (show 0 < a by omega)
  rcases lt_or_ge' ((a + n / a) / 2) r with hlt | hge
  · exfalso
    have h2 : n / a ≤ 2 * r - 1 - a := by omega
    have h3 := Int.mul_le_mul_of_nonneg_left h2 (show 0 ≤ a by omega)
    have h4 := sq_nonneg (r - a)
    have h5 : a * (2 * r - 1 - a) = 2 * (a * r) - a - a * a := by grind
    have h6 : (r - a) * (r - a) = r * r - 2 * (a * r) + a * a := by grind
    omega
  · exact hge
/-- The root. -/
def IsRoot (n r : Int) : Prop := 0 ≤ r ∧ r * r ≤ n ∧ n < (r + 1) * (r + 1)
theorem sq_lt {a b : Int} (ha : 0 ≤ a) (h : a * a < b * b) (hb : 0 ≤ b) : a < b := by
  rcases lt_or_ge' a b with h1 | h1
  · exact h1
  · have := Int.mul_le_mul h1 h1 hb ha; omega
theorem sq_le {a b : Int} (ha : 0 ≤ a) (h : a ≤ b) : a * a ≤ b * b := Int.mul_le_mul h h ha (by omega)
theorem IsRoot.uniq {n r s : Int} (h : IsRoot n r) (k : IsRoot n s) : r = s := by
  obtain ⟨h1, h2, h3⟩ := h
  obtain ⟨k1, k2, k3⟩ := k
  have a := sq_lt h1 (show r * r < (s + 1) * (s + 1) by omega) (by omega)
  have b := sq_lt k1 (show s * s < (r + 1) * (r + 1) by omega) (by omega)
  omega
theorem root_nat (n : Nat) : ∃ r : Nat, r * r ≤ n ∧ n < (r + 1) * (r + 1) := by
  induction n with
  | zero => exact ⟨0, by omega, by omega⟩
  | succ n ih =>
    obtain ⟨r, h1, h2⟩ := ih
    by_cases h : n + 1 < (r + 1) * (r + 1)
    · exact ⟨r, by omega, h⟩
    · refine ⟨r + 1, by omega, ?_⟩
      have : (r + 1 + 1) * (r + 1 + 1) = (r + 1) * (r + 1) + 2 * (r + 1) + 1 := by grind
      omega
theorem root_ex (n : Int) (h : 0 ≤ n) : ∃ r, IsRoot n r := by
  obtain ⟨r, h1, h2⟩ := root_nat n.toNat
  refine ⟨r, by omega, ?_, ?_⟩
  · have : ((r * r : Nat) : Int) ≤ (n.toNat : Int) := by exact_mod_cast h1
    rw [Int.natCast_mul] at this
    omega
  · have : ((n.toNat : Nat) : Int) < (((r + 1) * (r + 1) : Nat) : Int) := by exact_mod_cast h2
    rw [Int.natCast_mul, Int.natCast_add] at this
    have e : ((n.toNat : Nat) : Int) = n := by omega
    rw [e] at this
    simpa using this

/-- The first power of 2 that 'turf.root' takes. -/
theorem half_bd (l : Nat) (x : Nat) (hl : x < 2 ^ l) (hl2 : l ≤ 62) : x < 2 ^ ((l + 1) / 2) * 2 ^ ((l + 1) / 2) ∧ (2:Nat) ^ ((l + 1) / 2) ≤ 2147483648 ∧ 1 ≤ (2:Nat) ^ ((l + 1) / 2) := by
  have h1 : (2:Nat) ^ l ≤ 2 ^ ((l + 1) / 2 + (l + 1) / 2) := Nat.pow_le_pow_right (by omega) (by omega)
  rw [Nat.pow_add] at h1
  have h2 : (2:Nat) ^ ((l + 1) / 2) ≤ 2 ^ 31 := Nat.pow_le_pow_right (by omega) (by omega)
  exact ⟨by omega, h2, Nat.one_le_two_pow⟩

/-- What 'checkAll' answers. -/
def okAll (ps : List (Int × Int)) : Bool := ps.all fun p => fits p.1 && fits p.2
def chk (ps : List (Int × Int)) : Int := if okAll ps then 0 else 2
theorem okAll_take_succ (ps : List (Int × Int)) (k : Nat) (h : k < ps.length) : okAll (ps.take (k + 1)) = (okAll (ps.take k) && (fits (ps.getD k (0, 0)).1 && fits (ps.getD k (0, 0)).2)) := by
  unfold okAll
  rw [List.take_succ_eq_append_getElem h, List.all_append]
  simp [List.getD, h]
theorem okAll_of_take (ps : List (Int × Int)) (k : Nat) (h : okAll (ps.take k) = false) : okAll ps = false := by
  unfold okAll at *
  rw [List.all_eq_false] at *
  obtain ⟨x, hx, hn⟩ := h
  exact ⟨x, List.mem_of_mem_take hx, hn⟩

/-- The halves of a product. -/
def hi (z : Int) : Int := z / 18446744073709551616
def lo (z : Int) : Int := z % 18446744073709551616
theorem hilo (z : Int) : 18446744073709551616 * hi z + lo z = z := by unfold hi lo; exact Int.mul_ediv_add_emod z _
theorem lo_bd (z : Int) : 0 ≤ lo z ∧ lo z < 18446744073709551616 := by unfold lo; omega
theorem hilo_inj {x y : Int} (h1 : hi x = hi y) (h2 : lo x = lo y) : x = y := by have := hilo x; have := hilo y; omega
theorem cmp_hi {x y : Int} (h : hi x ≠ hi y) : cmp (hi x) (hi y) = cmp x y := by
  have a := hilo x
  have b := hilo y
  have c := lo_bd x
  have d := lo_bd y
  rcases Int.lt_trichotomy (hi x) (hi y) with h1 | h1 | h1
  · rw [cmp_lt h1, cmp_lt (by omega)]
  · exact absurd h1 h
  · rw [cmp_gt h1, cmp_gt (by omega)]
theorem cmp_lo {x y : Int} (h : hi x = hi y) : cmp (lo x) (lo y) = cmp x y := by
  have a := hilo x
  have b := hilo y
  rcases Int.lt_trichotomy (lo x) (lo y) with h1 | h1 | h1
  · rw [cmp_lt h1, cmp_lt (by omega)]
  · rw [h1, cmp_eq, hilo_inj h h1, cmp_eq]
  · rw [cmp_gt h1, cmp_gt (by omega)]
theorem cmp_swap (a b : Int) : cmp a b = -cmp b a := by
  rcases Int.lt_trichotomy a b with h | h | h
  · rw [cmp_lt h, cmp_gt h]
  · rw [h, cmp_eq]; rfl
  · rw [cmp_gt h, cmp_lt h]; rfl
theorem cmp_bd (a b : Int) : -1 ≤ cmp a b ∧ cmp a b ≤ 1 := by
  unfold cmp; split
  · omega
  · split <;> omega

/-- Is x from l to h? -/
def among (x l h : Int) : Bool := decide (l ≤ x ∧ x ≤ h)
theorem among_yes {x l h : Int} (h1 : l ≤ x) (h2 : x ≤ h) : among x l h = true := by unfold among; simp [h1, h2]
theorem among_no {x l h : Int} (h1 : x < l ∨ h < x) : among x l h = false := by unfold among; simp; omega
/-- The digits of a product, to the base 2^31. -/
def g0 (z : Int) : Int := z / 2147483648 / 2147483648 / 2147483648
def g1 (z : Int) : Int := z / 2147483648 / 2147483648 % 2147483648
def g2 (z : Int) : Int := z / 2147483648 % 2147483648
def g3 (z : Int) : Int := z % 2147483648
theorem gsum (z : Int) : ((g0 z * 2147483648 + g1 z) * 2147483648 + g2 z) * 2147483648 + g3 z = z := by unfold g0 g1 g2 g3; omega
theorem g_bd (z : Int) : 0 ≤ g1 z ∧ g1 z < 2147483648 ∧ 0 ≤ g2 z ∧ g2 z < 2147483648 ∧ 0 ≤ g3 z ∧ g3 z < 2147483648 := by unfold g1 g2 g3; omega
theorem digits (a b : Int) (low m n mid high top : Int) (h1 : low = a % 2147483648 * (b % 2147483648)) (h2 : m = a / 2147483648 * (b % 2147483648)) (h3 : n = a % 2147483648 * (b / 2147483648))
    (h4 : mid = m % 2147483648 + n % 2147483648 + low / 2147483648) (h5 : high = m / 2147483648 + n / 2147483648 + mid / 2147483648) (h6 : top = a / 2147483648 * (b / 2147483648) + high) :
    top / 2147483648 = g0 (a * b) ∧ top % 2147483648 = g1 (a * b) ∧ mid % 2147483648 = g2 (a * b) ∧ low % 2147483648 = g3 (a * b) := by
  have ea := Int.mul_ediv_add_emod a 2147483648
  have eb := Int.mul_ediv_add_emod b 2147483648
  generalize a / 2147483648 = x at *
  generalize a % 2147483648 = y at *
  generalize b / 2147483648 = u at *
  generalize b % 2147483648 = v at *
  have e : a * b = x * u * 4611686018427387904 + (m + n) * 2147483648 + low := by
    rw [← ea, ← eb, h1, h2, h3]; grind
  have e2 : a * b = (top * 2147483648 + mid % 2147483648) * 2147483648 + low % 2147483648 := by
    rw [e, h6, h5]
    generalize x * u = xu
    omega
  rw [e2]
  unfold g0 g1 g2 g3
  omega
theorem mul_range (a b A B : Int) (h1 : 0 ≤ a) (h2 : a ≤ A) (h3 : 0 ≤ b) (h4 : b ≤ B) : 0 ≤ a * b ∧ a * b ≤ A * B :=
  ⟨Int.mul_nonneg h1 h3, Int.mul_le_mul h2 h4 h3 (by omega)⟩

/-- How far (p, q) is to the left of the way from (x, y) to (u, v); how far ahead. -/
def left (x y u v p q : Int) : Int := (u - x) * (q - y) - (v - y) * (p - x)
def ahead (x y u v p q : Int) : Int := (u - x) * (p - x) + (v - y) * (q - y)
end Go.Proofs.Ytlgabdamgalngaa.M
