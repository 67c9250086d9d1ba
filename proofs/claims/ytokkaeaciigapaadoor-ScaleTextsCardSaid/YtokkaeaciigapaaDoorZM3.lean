/-
  The long division by digits, and whole quotients: no program in sight.
  Conditions: those of each lemma.
-/
import Derived.Test.YtokkaeaciigapaaDoorZM2
namespace Go.Proofs.YtokkaeaciigapaaDoor.Zd
open Go.Proofs.YtokkaeaciigapaaDoor

theorem drop_set {q : List Int} {j : Nat} (v : Int) (h : j < q.length) : (q.set j v).drop j = v :: q.drop (j + 1) := by
  rw [List.drop_eq_getElem_cons (by simpa using h), List.getElem_set_self, List.drop_set_of_lt (by omega)]
theorem drop_cons {A : List Int} {j : Nat} (h : j < A.length) : A.drop j = A.getD j 0 :: A.drop (j + 1) := by
  have e : A.getD j 0 = A[j] := by simp [List.getD, h]
  rw [e]; exact List.drop_eq_getElem_cons h
/-- One place of the division: lo is the greatest number with m * lo at most the rest. -/
theorem split_step {A q : List Int} {j : Nat} {m R x lo : Int} (h : val (A.drop (j + 1)) = val (q.drop (j + 1)) * m + R) (hA : j < A.length) (hq : j < q.length) (hx : A.getD j 0 = x) :
    val (A.drop j) = val ((q.set j lo).drop j) * m + (x + 1000000 * R - m * lo) := by
  rw [drop_cons hA, drop_set _ hq, val, val, h, hx, Int.mul_add, Int.add_mul, Int.mul_comm m lo, Int.mul_assoc]
  omega
/-- The rest stays below the divisor; the digit is one. -/
theorem split_digit {m R x lo : Int} (hm : 0 < m) (h1 : R < m) (hx1 : x < 1000000) (hlo : m * lo ≤ x + 1000000 * R) (hhi : x + 1000000 * R < m * (lo + 1)) :
    lo < 1000000 ∧ 0 ≤ x + 1000000 * R - m * lo ∧ x + 1000000 * R - m * lo < m := by
  rw [Int.mul_add, Int.mul_one] at hhi
  refine ⟨?_, by omega, by omega⟩
  rcases (show lo < 1000000 ∨ 1000000 ≤ lo by omega) with g | g
  · exact g
  · exfalso
    have := Int.mul_le_mul_of_nonneg_left g (Int.le_of_lt hm)
    omega
theorem euclid {a b q r : Int} (h0 : 0 ≤ r) (h1 : r < b.natAbs) (h : a = b * q + r) : a / b = q ∧ a % b = r := by
  have pos : ∀ {b q : Int}, 0 < b → r < b → a = b * q + r → a / b = q ∧ a % b = r := fun {b q} hb hr h => (Int.ediv_emod_unique hb).2 ⟨by omega, h0, hr⟩
  rcases (show 0 < b ∨ b ≤ 0 by omega) with hb | hb
  · exact pos hb (by omega) h
  · have := pos (b := -b) (q := -q) (by omega) (by omega) (by rw [Int.neg_mul_neg]; exact h)
    rw [Int.ediv_neg, Int.emod_neg] at this
    exact ⟨by omega, this.2⟩
section
variable {a b : Int} {Q R mm : Nat}
theorem eu_core (hb : b.natAbs = mm) (z r : Int) (h0 : 0 ≤ r) (h1 : r < mm) (h : a = mm * z + r) : (0 ≤ b → a / b = z ∧ a % b = r) ∧ (b < 0 → a / b = -z ∧ a % b = r) := by
  refine ⟨fun g => euclid h0 (by omega) ?_, fun g => euclid h0 (by omega) ?_⟩
  · rw [h, show b = (mm : Int) by omega]
  · rw [h, show b = -(mm : Int) by omega, Int.neg_mul_neg]
theorem eu_pos (hb : b.natAbs = mm) (hR : (R : Int) < mm) (h : (a.natAbs : Int) = Q * mm + R) (ha : 0 ≤ a) : (0 ≤ b → a / b = Q ∧ a % b = R) ∧ (b < 0 → a / b = -Q ∧ a % b = R) :=
  eu_core hb Q R (by omega) hR (by rw [Int.mul_comm]; omega)
theorem eu_zero (hb : b.natAbs = mm) (hR : (R : Int) < mm) (h : (a.natAbs : Int) = Q * mm + R) (ha : a < 0) (h0 : R = 0) : (0 ≤ b → a / b = -Q ∧ a % b = R) ∧ (b < 0 → a / b = - -Q ∧ a % b = R) :=
  eu_core hb (-Q) R (by omega) hR (by rw [Int.mul_neg, Int.mul_comm]; omega)
theorem eu_rest (hb : b.natAbs = mm) (hR : (R : Int) < mm) (h : (a.natAbs : Int) = Q * mm + R) (ha : a < 0) (h0 : 0 < R) : (0 ≤ b → a / b = -Q - 1 ∧ a % b = mm - R) ∧ (b < 0 → a / b = -(-Q - 1) ∧ a % b = mm - R) :=
  eu_core hb (-Q - 1) (mm - R) (by omega) (by omega) (by rw [Int.mul_sub, Int.mul_neg, Int.mul_comm, Int.mul_one]; omega)
end
end Go.Proofs.YtokkaeaciigapaaDoor.Zd

