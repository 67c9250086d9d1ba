/-
  The walk of the law NumQuotients.
  Conditions: those of each theorem; arguments are 64-bit numbers.
-/
import Derived.Test.YtijpjjpndpdjpaaW2
import Derived.Test.YtijpjjpndpdjpaaZN
set_option linter.unusedSimpArgs false
set_option linter.unusedVariables false
namespace Go.Proofs.Ytijpjjpndpdjpaa
open Go.RowKit Go.Shelf Zd Wd


theorem round_any (va vb : Value) (a b : Int) (hb1 : 1 ≤ b) (hla : (digs a.natAbs).length ≤ 100000) (hlb : (digs b.natAbs).length ≤ 100000) (w : World) (hA : IsZ w va a) (hB : IsZ w vb b) :
    Calls Try.prog 72 #[va, vb] w fun e w' => ∃ u, e = .returned u ∧ IsZ w' u (rdV a b) ∧ Below w.heap.size w w' := by
  rcases (show a < 0 ∨ 0 ≤ a by omega) with h | h
  · have e : rdV a b = -(((a.natAbs : Int) * 2 + b) / (b * 2)) := by
      unfold rdV
      rw [if_neg (by omega), if_pos h, show 2 * -a + b = (a.natAbs : Int) * 2 + b by omega]
    rw [e]
    exact round_neg va vb a b h hb1 hla hlb w hA hB
  · have e : rdV a b = ((a.natAbs : Int) * 2 + b) / (b * 2) := by
      unfold rdV
      rw [if_neg (by omega), if_neg (by omega), show 2 * a + b = (a.natAbs : Int) * 2 + b by omega]
    rw [e]
    exact round_pos va vb a b h hb1 hla hlb w hA hB
theorem quot_bounds {a b : Int} (a1 : -9223372036854775808 ≤ a) (a2 : a ≤ 9223372036854775807) (hb : 1 ≤ b) : (-9223372036854775808 ≤ a / b ∧ a / b ≤ 9223372036854775807) ∧ (-9223372036854775808 ≤ -(-a / b) ∧ -(-a / b) ≤ 9223372036854775807) ∧ (-9223372036854775808 ≤ rdV a b ∧ rdV a b ≤ 9223372036854775807) := by
  have lo : ∀ (c d : Int), 1 ≤ d → -9223372036854775808 ≤ c → c ≤ 9223372036854775808 → -9223372036854775808 ≤ c / d ∧ c / d ≤ 9223372036854775808 := by
    intro c d hd h1 h2
    refine ⟨Int.le_ediv_of_mul_le (by omega) ?_, Int.ediv_le_of_le_mul (by omega) ?_⟩
    · have := Int.mul_le_mul_of_nonneg_left hd (show (0 : Int) ≤ 9223372036854775808 by decide)
      omega
    · have := Int.mul_le_mul_of_nonneg_left hd (show (0 : Int) ≤ 9223372036854775808 by decide)
      omega
  have hi : ∀ (c d : Int), 1 ≤ d → c ≤ 9223372036854775807 → c / d ≤ 9223372036854775807 := by
    intro c d hd h2
    refine Int.ediv_le_of_le_mul (by omega) ?_
    have := Int.mul_le_mul_of_nonneg_left hd (show (0 : Int) ≤ 9223372036854775807 by decide)
    omega
  have l1 := lo a b hb a1 (by omega)
  have l2 := lo (-a) b hb (by omega) (by omega)
  have l3 := hi a b hb a2
  have l4 : -9223372036854775807 ≤ -a / b := by
    refine Int.le_ediv_of_mul_le (by omega) ?_
    have := Int.mul_le_mul_of_nonneg_left hb (show (0 : Int) ≤ 9223372036854775807 by decide)
    omega
  refine ⟨⟨l1.1, l3⟩, ⟨by omega, by omega⟩, ?_⟩
  obtain ⟨s1, s2, s3⟩ := rdm a b hb
  obtain ⟨t1, t2, t3, t4, t5⟩ := tdm (a := a) (b := b) hb
  have tb := tdb (b := b) hb a1 a2
  rcases (show b - a.tmod b ≤ a.tmod b ∨ b + a.tmod b ≤ -a.tmod b ∨ (a.tmod b < b - a.tmod b ∧ -a.tmod b < b + a.tmod b) by omega) with h | h | h
  · have := t3 (by omega); rw [s1 h]; omega
  · have := t1 (by omega); rw [s2 h]; omega
  · rw [s3 h.1 h.2]; exact tb

end Go.Proofs.Ytijpjjpndpdjpaa

