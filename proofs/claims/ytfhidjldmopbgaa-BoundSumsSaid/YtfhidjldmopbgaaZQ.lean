/-
  The contracts of the reference's Quotient.
  Conditions: those of each theorem.
-/
import Derived.Test.YtfhidjldmopbgaaZG
set_option linter.unusedSimpArgs false
set_option linter.unusedVariables false
namespace Go.Proofs.Ytfhidjldmopbgaa
open Go.RowKit Go.Shelf Zd Wd

theorem ceil_down {a d : Int} (h : 1 ≤ d) : -(-a / d) = (a + (d - 1)) / d := by
  have h1 := Int.emod_nonneg (-a) (show d ≠ 0 by omega)
  have h2 := Int.emod_lt_of_pos (-a) (show 0 < d by omega)
  have h3 := Int.emod_add_mul_ediv (-a) d
  exact ((Int.ediv_emod_unique (a := a + (d - 1)) (q := -(-a / d)) (r := d - 1 - (-a) % d) (show 0 < d by omega)).2 ⟨by rw [Int.mul_neg]; omega, by omega, by omega⟩).1.symm
end Go.Proofs.Ytfhidjldmopbgaa

