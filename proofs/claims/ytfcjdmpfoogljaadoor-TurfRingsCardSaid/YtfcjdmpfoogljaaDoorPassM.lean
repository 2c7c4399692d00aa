/-
  Mathematics of passing a ring: shares are compared.
-/
import Derived.Test.YtfcjdmpfoogljaaDoorMathB
set_option linter.unusedVariables false
namespace Go.Proofs.YtfcjdmpfoogljaaDoor.M

/-- Of all the ways, of each how far both ends are on its left: is a point of the segment on the left of all? -/
def CrossP (L : List (Int × Int)) : Prop :=
  L ≠ [] ∧ (∀ i ∈ L, ¬ (i.1 ≤ 0 ∧ i.2 ≤ 0)) ∧ ∀ i ∈ L, ∀ k ∈ L, i.1 ≤ 0 → k.2 ≤ 0 → -i.1 * (k.1 - k.2) < k.1 * (i.2 - i.1)

/-- What is known of the greatest share of those at which a way is entered. -/
def Ent (L : List (Int × Int)) (e1 e2 : Int) : Prop :=
  (e1 = 0 ∧ e2 = 0 ∧ ∀ j ∈ L, 0 < j.1) ∨ (∃ i ∈ L, i.1 ≤ 0 ∧ e1 = -i.1 ∧ e2 = i.2 - i.1 ∧ 0 < e2 ∧ ∀ j ∈ L, j.1 ≤ 0 → -j.1 * e2 ≤ e1 * (j.2 - j.1))
/-- .. and of the least of those at which one is left. -/
def Lea (L : List (Int × Int)) (l1 l2 : Int) : Prop :=
  (l1 = 0 ∧ l2 = 0 ∧ ∀ j ∈ L, 0 < j.2) ∨ (∃ i ∈ L, i.2 ≤ 0 ∧ l1 = i.1 ∧ l2 = i.1 - i.2 ∧ 0 < l2 ∧ ∀ j ∈ L, j.2 ≤ 0 → l1 * (j.1 - j.2) ≤ j.1 * l2)
def NoBad (L : List (Int × Int)) : Prop := ∀ i ∈ L, ¬ (i.1 ≤ 0 ∧ i.2 ≤ 0)

/-- Fractions with denominators above 0. -/
theorem frac_trans {a b c d e f : Int} (hb : 0 < b) (hd : 0 < d) (hf : 0 < f) (h1 : a * d ≤ c * b) (h2 : c * f ≤ e * d) : a * f ≤ e * b := by
  have x1 : a * d * f ≤ c * b * f := Int.mul_le_mul_of_nonneg_right h1 (by omega)
  have x2 : c * f * b ≤ e * d * b := Int.mul_le_mul_of_nonneg_right h2 (by omega)
  have x3 : d * (a * f) ≤ d * (e * b) := by
    have y1 : d * (a * f) = a * d * f := by grind
    have y2 : d * (e * b) = e * d * b := by grind
    have y3 : c * b * f = c * f * b := by grind
    omega
  exact Int.le_of_mul_le_mul_left x3 hd
theorem frac_lt_trans {a b c d e f : Int} (hb : 0 < b) (hd : 0 < d) (hf : 0 < f) (h1 : a * d < c * b) (h2 : c * f ≤ e * d) : a * f < e * b := by
  have x1 : a * d * f < c * b * f := Int.mul_lt_mul_of_pos_right h1 hf
  have x2 : c * f * b ≤ e * d * b := Int.mul_le_mul_of_nonneg_right h2 (by omega)
  have x3 : d * (a * f) < d * (e * b) := by
    have y1 : d * (a * f) = a * d * f := by grind
    have y2 : d * (e * b) = e * d * b := by grind
    have y3 : c * b * f = c * f * b := by grind
    omega
  exact Int.lt_of_mul_lt_mul_left x3 (by omega)
theorem frac_le_lt {a b c d e f : Int} (hb : 0 < b) (hd : 0 < d) (hf : 0 < f) (h1 : a * d ≤ c * b) (h2 : c * f < e * d) : a * f < e * b := by
  have x1 : a * d * f ≤ c * b * f := Int.mul_le_mul_of_nonneg_right h1 (by omega)
  have x2 : c * f * b < e * d * b := Int.mul_lt_mul_of_pos_right h2 hb
  have x3 : d * (a * f) < d * (e * b) := by
    have y1 : d * (a * f) = a * d * f := by grind
    have y2 : d * (e * b) = e * d * b := by grind
    have y3 : c * b * f = c * f * b := by grind
    omega
  exact Int.lt_of_mul_lt_mul_left x3 (by omega)

theorem Ent.zero : Ent [] 0 0 := .inl ⟨rfl, rfl, by simp⟩
theorem Lea.zero : Lea [] 0 0 := .inl ⟨rfl, rfl, by simp⟩
theorem Ent.pos {L : List (Int × Int)} {e1 e2 : Int} (h : Ent L e1 e2) : 0 ≤ e2 ∧ 0 ≤ e1 ∧ (e2 = 0 → e1 = 0) := by
  rcases h with ⟨h1, h2, _⟩ | ⟨i, hi, h1, h2, h3, h4, _⟩ <;> omega
theorem Lea.pos {L : List (Int × Int)} {l1 l2 : Int} (h : Lea L l1 l2) (hb : NoBad L) : 0 ≤ l2 ∧ 0 ≤ l1 ∧ (l2 = 0 → l1 = 0) := by
  rcases h with ⟨h1, h2, _⟩ | ⟨i, hi, h1, h2, h3, h4, _⟩
  · omega
  · have := hb i hi
    omega
theorem NoBad.snoc {L : List (Int × Int)} {p q : Int} (h : NoBad L) (hn : ¬ (p ≤ 0 ∧ q ≤ 0)) : NoBad (L ++ [(p, q)]) := fun i hi => by
  rcases List.mem_append.1 hi with k | k
  · exact h i k
  · simp at k; subst k; exact hn
theorem NoBad.nil : NoBad [] := by simp [NoBad]

/-- A side that is not entered. -/
theorem Ent.keep {L : List (Int × Int)} {e1 e2 p q : Int} (h : Ent L e1 e2) (hp : 0 < p) : Ent (L ++ [(p, q)]) e1 e2 := by
  rcases h with ⟨h1, h2, h3⟩ | ⟨i, hi, h1, h2, h3, h4, h5⟩
  · refine .inl ⟨h1, h2, fun j hj => ?_⟩
    rcases List.mem_append.1 hj with k | k
    · exact h3 j k
    · simp at k; subst k; exact hp
  · refine .inr ⟨i, List.mem_append_left _ hi, h1, h2, h3, h4, fun j hj hj0 => ?_⟩
    rcases List.mem_append.1 hj with k | k
    · exact h5 j k hj0
    · simp at k; subst k; simp at hj0; omega
/-- The greatest stays. -/
theorem Ent.stay {L : List (Int × Int)} {e1 e2 p q : Int} (h : Ent L e1 e2) (hb : NoBad L) (he : e2 ≠ 0) (hq : ¬ e1 * (q - p) < -p * e2) : Ent (L ++ [(p, q)]) e1 e2 := by
  rcases h with ⟨h1, h2, h3⟩ | ⟨i, hi, h1, h2, h3, h4, h5⟩
  · omega
  · refine .inr ⟨i, List.mem_append_left _ hi, h1, h2, h3, h4, fun j hj hj0 => ?_⟩
    rcases List.mem_append.1 hj with k | k
    · exact h5 j k hj0
    · simp at k; subst k; simp only []; omega
/-- A new greatest one. -/
theorem Ent.new {L : List (Int × Int)} {e1 e2 p q : Int} (h : Ent L e1 e2) (hb : NoBad L) (hp : p ≤ 0) (hq : 0 < q) (hl : e2 = 0 ∨ e1 * (q - p) < -p * e2) : Ent (L ++ [(p, q)]) (-p) (q - p) := by
  refine .inr ⟨(p, q), by simp, hp, rfl, rfl, by omega, fun j hj hj0 => ?_⟩
  rcases List.mem_append.1 hj with k | k
  · rcases h with ⟨h1, h2, h3⟩ | ⟨i, hi, h1, h2, h3, h4, h5⟩
    · have := h3 j k; omega
    · have hj2 := hb j k
      exact frac_trans (b := j.2 - j.1) (d := e2) (f := q - p) (by omega) h4 (by omega) (h5 j k hj0) (by rcases hl with hl | hl <;> omega)
  · simp at k; subst k; simp only []; omega
theorem Lea.keep {L : List (Int × Int)} {l1 l2 p q : Int} (h : Lea L l1 l2) (hq : 0 < q) : Lea (L ++ [(p, q)]) l1 l2 := by
  rcases h with ⟨h1, h2, h3⟩ | ⟨i, hi, h1, h2, h3, h4, h5⟩
  · refine .inl ⟨h1, h2, fun j hj => ?_⟩
    rcases List.mem_append.1 hj with k | k
    · exact h3 j k
    · simp at k; subst k; exact hq
  · refine .inr ⟨i, List.mem_append_left _ hi, h1, h2, h3, h4, fun j hj hj0 => ?_⟩
    rcases List.mem_append.1 hj with k | k
    · exact h5 j k hj0
    · simp at k; subst k; simp at hj0; omega
theorem Lea.stay {L : List (Int × Int)} {l1 l2 p q : Int} (h : Lea L l1 l2) (hb : NoBad L) (he : l2 ≠ 0) (hq : ¬ p * l2 < l1 * (p - q)) : Lea (L ++ [(p, q)]) l1 l2 := by
  rcases h with ⟨h1, h2, h3⟩ | ⟨i, hi, h1, h2, h3, h4, h5⟩
  · omega
  · refine .inr ⟨i, List.mem_append_left _ hi, h1, h2, h3, h4, fun j hj hj0 => ?_⟩
    rcases List.mem_append.1 hj with k | k
    · exact h5 j k hj0
    · simp at k; subst k; simp only []; omega
theorem Lea.new {L : List (Int × Int)} {l1 l2 p q : Int} (h : Lea L l1 l2) (hb : NoBad L) (hp : 0 < p) (hq : q ≤ 0) (hl : l2 = 0 ∨ p * l2 < l1 * (p - q)) : Lea (L ++ [(p, q)]) p (p - q) := by
  refine .inr ⟨(p, q), by simp, hq, rfl, rfl, by omega, fun j hj hj0 => ?_⟩
  rcases List.mem_append.1 hj with k | k
  · rcases h with ⟨h1, h2, h3⟩ | ⟨i, hi, h1, h2, h3, h4, h5⟩
    · have := h3 j k; omega
    · have hj2 := hb j k
      exact frac_trans (b := p - q) (d := l2) (f := j.1 - j.2) (by omega) h4 (by omega) (by rcases hl with hl | hl <;> omega) (h5 j k hj0)
  · simp at k; subst k; simp only []; omega
/-- No end of one kind: the answer is whether there are sides at all. -/
theorem cross_none {L : List (Int × Int)} {e1 e2 l1 l2 : Int} (hE : Ent L e1 e2) (hL : Lea L l1 l2) (hb : NoBad L) (h : e2 = 0 ∨ l2 = 0) : CrossP L ↔ L ≠ [] := by
  constructor
  · exact fun k => k.1
  · intro k
    refine ⟨k, hb, fun i hi j hj hi0 hj0 => ?_⟩
    rcases h with h | h
    · rcases hE with ⟨_, _, h3⟩ | ⟨_, _, _, _, _, h4, _⟩
      · have := h3 i hi; omega
      · omega
    · rcases hL with ⟨_, _, h3⟩ | ⟨_, _, _, _, _, h4, _⟩
      · have := h3 j hj; omega
      · omega
theorem cross_both {L : List (Int × Int)} {e1 e2 l1 l2 : Int} (hE : Ent L e1 e2) (hL : Lea L l1 l2) (hb : NoBad L) (h1 : e2 ≠ 0) (h2 : l2 ≠ 0) : CrossP L ↔ e1 * l2 < l1 * e2 := by
  rcases hE with ⟨_, k, _⟩ | ⟨i, hi, i1, i2, i3, i4, i5⟩
  · exact absurd k h1
  rcases hL with ⟨_, k, _⟩ | ⟨j, hj, j1, j2, j3, j4, j5⟩
  · exact absurd k h2
  constructor
  · intro k
    have := k.2.2 i hi j hj i1 j1
    rw [i2, i3, j2, j3]
    exact this
  · intro k
    refine ⟨List.ne_nil_of_mem hi, hb, fun a ha b hb' ha0 hb0 => ?_⟩
    have x1 := i5 a ha ha0
    have x2 := j5 b hb' hb0
    have a2 := hb a ha
    have b2 := hb b hb'
    have y1 : -a.1 * l2 < l1 * (a.2 - a.1) := frac_le_lt (b := a.2 - a.1) (d := e2) (f := l2) (by omega) i4 j4 x1 k
    exact frac_lt_trans (b := a.2 - a.1) (d := l2) (f := b.1 - b.2) (by omega) j4 (by omega) y1 x2
theorem cross_bad {L : List (Int × Int)} (i : Int × Int) (hi : i ∈ L) (h : i.1 ≤ 0 ∧ i.2 ≤ 0) : ¬ CrossP L := fun k => k.2.1 i hi h
end Go.Proofs.YtfcjdmpfoogljaaDoor.M
