/-
  Contracts of layer 1: rings.
-/
import Derived.Test.YtlgabdamgalngaaD
import Derived.BigQuiet
import Derived.Deep.QuietTactic
set_option linter.unusedVariables false
set_option linter.unusedSimpArgs false
namespace Go.Proofs.Ytlgabdamgalngaa
open Go.ChangeShapes Go.WideShapes Go.ChangeAt Go.RowKit

/-- The table of a ring, where the program lays it. -/
structure Tab (w : World) : Prop where
  size : 0 < w.heap.size
  c0 : w.cell? ⟨0, 0, none⟩ = some (.int .i64 4096)
  c1 : w.cell? ⟨0, 1, none⟩ = some (.int .i64 0)
  c2 : w.cell? ⟨0, 2, none⟩ = some (.int .i64 3784)
  c3 : w.cell? ⟨0, 3, none⟩ = some (.int .i64 1567)
  c4 : w.cell? ⟨0, 4, none⟩ = some (.int .i64 2896)
  c5 : w.cell? ⟨0, 5, none⟩ = some (.int .i64 2896)
  c6 : w.cell? ⟨0, 6, none⟩ = some (.int .i64 1567)
  c7 : w.cell? ⟨0, 7, none⟩ = some (.int .i64 3784)
theorem Tab.below {B : Nat} {w w' : World} (h : Tab w) (hb : Below B w w') (hB : 0 < B) : Tab w' :=
  ⟨Nat.lt_of_lt_of_le h.size hb.size, (hb.cell (p := ⟨0, 0, none⟩) hB).trans h.c0, (hb.cell (p := ⟨0, 1, none⟩) hB).trans h.c1, (hb.cell (p := ⟨0, 2, none⟩) hB).trans h.c2, (hb.cell (p := ⟨0, 3, none⟩) hB).trans h.c3,
    (hb.cell (p := ⟨0, 4, none⟩) hB).trans h.c4, (hb.cell (p := ⟨0, 5, none⟩) hB).trans h.c5, (hb.cell (p := ⟨0, 6, none⟩) hB).trans h.c6, (hb.cell (p := ⟨0, 7, none⟩) hB).trans h.c7⟩

theorem below_drewN {B : Nat} {a w : World} (h : Below B a w) (n : Nat) : Below B a (w.drewN n) := ⟨h.os, h.tape, h.output, h.size, h.block⟩

/-- The pairs of the points of a ring. -/
def pairs : List (Int × Int) := [(4096, 0), (3784, 1567), (2896, 2896), (1567, 3784), (0, 4096), (-1567, 3784), (-2896, 2896), (-3784, 1567), (-4096, 0), (-3784, -1567), (-2896, -2896), (-1567, -3784), (0, -4096), (1567, -3784), (2896, -2896), (3784, -1567)]
def pc (k : Nat) : Int := (pairs.getD k (0, 0)).1
def ps (k : Nat) : Int := (pairs.getD k (0, 0)).2

end Go.Proofs.Ytlgabdamgalngaa
