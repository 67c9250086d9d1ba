/-
  The contracts of the reference's numbers, sixth part: Plus and Less, of numbers.
  Conditions: those of each theorem.
-/
import Derived.Test.YtokkaeaciigapaaDoorZ5
namespace Go.Proofs.YtokkaeaciigapaaDoor
open Go.RowKit Go.Shelf Zd Wd

theorem sign_of {g : Bool} {n : Nat} {z : Int} (h1 : z.natAbs = n) (h2 : g = true → z ≤ 0) (h3 : g = false → 0 ≤ z) : (g && decide (digs n ≠ [])) = decide (z < 0) := by
  by_cases h0 : n = 0
  · have hz : z = 0 := by omega
    subst h0 hz
    simp [digs_zero]
  · have hd : digs n ≠ [] := fun e => h0 (digs_nil.1 e)
    rw [decide_eq_true hd, Bool.and_true]
    cases g
    · have := h3 rfl; rw [decide_eq_false (by omega)]
    · have := h2 rfl; rw [decide_eq_true (by omega)]
end Go.Proofs.YtokkaeaciigapaaDoor

