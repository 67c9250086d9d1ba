/-
  The contract of frac.Mul.
  Conditions: the arguments are int64.
-/
import Derived.Test.YtocheeocnbfbiaaDoorF2
set_option linter.unusedVariables false
set_option linter.unusedSimpArgs false
namespace Go.Proofs.YtocheeocnbfbiaaDoor
open Go.RowKit Go.Shelf Wd

theorem fit_in {z : Int} (h1 : -9223372036854775808 ≤ z) (h2 : z ≤ 9223372036854775807) : fit64 z = z ∧ fits64 z = true := ⟨if_pos ⟨h1, h2⟩, decide_eq_true ⟨h1, h2⟩⟩
theorem fit_bd (z : Int) : -9223372036854775808 ≤ fit64 z ∧ fit64 z ≤ 9223372036854775807 := by unfold fit64; split <;> omega
theorem fits_iff {z : Int} : fits64 z = true ↔ (-9223372036854775808 ≤ z ∧ z ≤ 9223372036854775807) := by unfold fits64; exact decide_eq_true_iff
/-- A quotient without remainder by a positive divisor. -/
theorem quot_parts {n g : Int} (hg : 0 < g) (h : g ∣ n) : n.tdiv g = n / g ∧ ((0 ≤ n → 0 ≤ n / g) ∧ (0 < n → 0 < n / g) ∧ n / g ≤ n.natAbs ∧ -(n.natAbs : Int) ≤ n / g) := by
  obtain ⟨p, rfl⟩ := h
  rw [Int.mul_ediv_cancel_left _ (by omega), tdiv_exact hg]
  refine ⟨rfl, ?_⟩
  rw [Int.natAbs_mul]
  have h1 : p.natAbs ≤ g.natAbs * p.natAbs := by
    have : 1 * p.natAbs ≤ g.natAbs * p.natAbs := Nat.mul_le_mul_right _ (by omega)
    omega
  generalize g.natAbs * p.natAbs = k at h1
  have hs : (0 ≤ g * p → 0 ≤ p) ∧ (0 < g * p → 0 < p) := by
    constructor
    · intro h; exact Int.le_of_mul_le_mul_left (a := g) (by omega) hg
    · intro h; exact Int.lt_of_mul_lt_mul_left (a := g) (by omega) (by omega)
  exact ⟨hs.1, hs.2, by omega, by omega⟩
theorem gcdV_pos {n d : Int} (h1 : 1 ≤ d) (h2 : d ≤ 9223372036854775807) : gcdV n d = Int.gcd n d := by
  have h3 : Int.gcd n d ≤ d.natAbs := Int.gcd_le_natAbs_right _ (by omega)
  unfold gcdV
  rw [if_neg (by unfold Int.gcd at h3; omega)]; rfl
/-- What the multiplication of valid numbers reckons. -/
theorem mul_parts (a b c d : Int) (h1 : Fv a b) (h2 : Fv c d) : ∃ l r x y z t : Int, 0 < l ∧ l ≤ 9223372036854775807 ∧ 0 < r ∧ r ≤ 9223372036854775807 ∧ gcdV a d = l ∧ gcdV c b = r ∧
    a.tdiv l = x ∧ c.tdiv r = y ∧ b.tdiv r = z ∧ d.tdiv l = t ∧ (-1152921504606846976 ≤ x ∧ x ≤ 1152921504606846976) ∧ (-1152921504606846976 ≤ y ∧ y ≤ 1152921504606846976) ∧ (1 ≤ z ∧ z ≤ 1152921504606846976) ∧ (1 ≤ t ∧ t ≤ 1152921504606846976) ∧
    lowA (a * c) (b * d) = limA (x * y) (z * t) ∧ lowB (a * c) (b * d) = limB (x * y) (z * t) ∧ lowE (a * c) (b * d) = limE (x * y) (z * t) := by
  obtain ⟨l0, r0, e1, e2⟩ := mul_red h1 h2
  have k1 := h1.bd
  have k2 := h2.bd
  have gl : Int.gcd a d ≤ d.natAbs := Int.gcd_le_natAbs_right _ (by omega)
  have gr : Int.gcd c b ≤ b.natAbs := Int.gcd_le_natAbs_right _ (by omega)
  obtain ⟨u1, u2⟩ := quot_parts l0 (Int.gcd_dvd_left a d)
  obtain ⟨u3, u4⟩ := quot_parts l0 (Int.gcd_dvd_right a d)
  obtain ⟨u5, u6⟩ := quot_parts r0 (Int.gcd_dvd_left c b)
  obtain ⟨u7, u8⟩ := quot_parts r0 (Int.gcd_dvd_right c b)
  refine ⟨Int.gcd a d, Int.gcd c b, _, _, _, _, l0, by omega, r0, by omega, gcdV_pos (by omega) (by omega), gcdV_pos (by omega) (by omega), u1, u5, u7, u3, by omega, by omega, by omega, by omega, ?_⟩
  unfold lowA lowB lowE
  rw [e1, e2]
  exact ⟨rfl, rfl, rfl⟩
theorem lim_big {n d : Int} (h : fits64 n = false ∨ fits64 d = false) : limA n d = 0 ∧ limB n d = 0 ∧ limE n d = 2 := by
  refine lim_no fun k => ?_
  rcases h with h | h
  · have := fits_iff.2 (show -9223372036854775808 ≤ n ∧ n ≤ 9223372036854775807 by omega)
    rw [this] at h; cases h
  · have := fits_iff.2 (show -9223372036854775808 ≤ d ∧ d ≤ 9223372036854775807 by omega)
    rw [this] at h; cases h

end Go.Proofs.YtocheeocnbfbiaaDoor

