/-
  The contract of frac.Make: the number in lowest terms.
  Conditions: the arguments are int64.
-/
import Derived.Test.YtdhodjbomepfbaaF1
import Derived.Deep.QuietTactic
import Derived.BigQuiet
set_option linter.unusedVariables false
set_option linter.unusedSimpArgs false
namespace Go.Proofs.Ytdhodjbomepfbaa
open Go.RowKit Go.Shelf Wd

theorem wrap_id64 {x : Int} (h1 : -9223372036854775808 ≤ x) (h2 : x ≤ 9223372036854775807) : Go.RowKit.wrap64 x = x := by rw [show Go.RowKit.wrap64 x = IntKind.i64.wrap x from (Go.IntWalk.i64_left _).symm, IntKind.wrap_i64]; omega
theorem tdiv_exact {g p : Int} (hg : 0 < g) : (g * p).tdiv g = p := Int.mul_tdiv_cancel_left _ (by omega)
/-- The parts of a pair of numbers: the greatest common divisor, and what is left. -/
theorem mk_parts (n d : Int) (a1 : -9223372036854775808 ≤ n) (a2 : n ≤ 9223372036854775807) (b1 : -9223372036854775808 ≤ d) (b2 : d ≤ 9223372036854775807) (hd : d ≠ 0) :
    (gcdV n d = 0 ∧ ∃ q : Int, n.tdiv d = q ∧ 0 ≤ q ∧ q ≤ 1 ∧ lowA n d = q ∧ lowB n d = 1 ∧ lowE n d = 0) ∨
    (∃ g p q : Int, 0 < g ∧ g ≤ 9223372036854775807 ∧ gcdV n d = g ∧ n.tdiv g = p ∧ d.tdiv g = q ∧ q ≠ 0 ∧ -9223372036854775808 ≤ p ∧ p ≤ 9223372036854775807 ∧ -9223372036854775808 ≤ q ∧ q ≤ 9223372036854775807 ∧
      (q < 0 → redN n d = -p ∧ redD n d = -q) ∧ (0 < q → redN n d = p ∧ redD n d = q)) := by
  have h0 : 0 < Int.gcd n d := Int.gcd_pos_of_ne_zero_right _ hd
  have hle : Int.gcd n d ≤ d.natAbs := Int.gcd_le_natAbs_right _ hd
  obtain ⟨p, hp⟩ := Int.gcd_dvd_left n d
  obtain ⟨q, hq⟩ := Int.gcd_dvd_right n d
  have eg : Nat.gcd n.natAbs d.natAbs = Int.gcd n d := rfl
  by_cases h : 9223372036854775807 < Int.gcd n d
  · left
    have e : Int.gcd n d = 9223372036854775808 := by omega
    refine ⟨by unfold gcdV; rw [eg, if_pos h], ?_⟩
    rw [e] at hp
    have hd' : d = -9223372036854775808 := by omega
    rcases (show n = 0 ∨ n = -9223372036854775808 by omega) with hn | hn
    · rw [hn, hd']
      exact ⟨0, by decide, by omega, by omega, low_eq (by omega) fv_zero (by omega)⟩
    · rw [hn, hd']
      exact ⟨1, by decide, by omega, by omega, low_eq (by omega) ⟨by omega, by decide⟩ (by omega)⟩
  · right
    have e : gcdV n d = (Int.gcd n d : Int) := by unfold gcdV; rw [eg, if_neg h]
    have hr : redN n d = d.sign * (n / Int.gcd n d) ∧ redD n d = d.sign * (d / Int.gcd n d) := ⟨rfl, rfl⟩
    have h0' : (0 : Int) < Int.gcd n d := by omega
    have h1' : (Int.gcd n d : Int) ≤ 9223372036854775807 := by omega
    clear h0 hle h eg
    generalize (Int.gcd n d : Int) = g at *
    have hg : 0 < g := h0'
    have hp2 : n.tdiv g = p := by rw [hp]; exact tdiv_exact hg
    have hq2 : d.tdiv g = q := by rw [hq]; exact tdiv_exact hg
    have hp3 : n / g = p := by rw [hp]; exact Int.mul_ediv_cancel_left _ (by omega)
    have hq3 : d / g = q := by rw [hq]; exact Int.mul_ediv_cancel_left _ (by omega)
    have e1 := Int.natAbs_tdiv_le_natAbs n g
    have e2 := Int.natAbs_tdiv_le_natAbs d g
    rw [hp3, hq3] at hr
    rw [hp2] at e1
    rw [hq2] at e2
    have q0 : q ≠ 0 := by intro hz; rw [hz] at hq; omega
    have hbd : (0 < p → p ≤ n) ∧ (0 < q → q ≤ d) := by
      constructor
      · intro hx
        rw [hp]
        have : 1 * p ≤ g * p := Int.mul_le_mul_of_nonneg_right (by omega) (by omega)
        omega
      · intro hx
        rw [hq]
        have : 1 * q ≤ g * q := Int.mul_le_mul_of_nonneg_right (by omega) (by omega)
        omega
    refine ⟨g, p, q, hg, h1', e, hp2, hq2, q0, by omega, by omega, by omega, by omega, fun hn => ?_, fun hn => ?_⟩
    · have hd0 : d < 0 := by
        rw [hq]
        exact Int.mul_neg_of_pos_of_neg hg hn
      rw [hr.1, hr.2, Int.sign_eq_neg_one_of_neg hd0]
      omega
    · have hd0 : 0 < d := by
        rw [hq]
        exact Int.mul_pos hg hn
      rw [hr.1, hr.2, Int.sign_eq_one_of_pos hd0]
      omega

end Go.Proofs.Ytdhodjbomepfbaa

