/-
  math/bits.Div64 over this program: where the high word is less than the divisor, it returns the quotient and the remainder of the two-word number; it draws an order at most.
  Conditions: hi, lo, y are uint64 with hi < y. (Knuth's two digits: the plain arithmetic is in YtokkaeaciigapaaDoorDivM.)
-/
import Derived.Test.YtokkaeaciigapaaDoorProg
import Derived.Test.YtokkaeaciigapaaDoorShelf
import Derived.WalkKit
import Derived.WalkSpells
import Derived.Handy
import Derived.BigQuiet
import Derived.Deep.QuietTactic
import Derived.RowKit3
import Derived.Lib.Hide
import Derived.Test.YtokkaeaciigapaaDoorDivM
namespace Go.Proofs.YtokkaeaciigapaaDoor
open Go.RowKit Go.Shelf

theorem ret_u64_2 {a b c d : Int} (h1 : a = c) (h2 : b = d) : Ending.returned (.tuple #[.int .u64 a, .int .u64 b]) = .returned (.tuple #[.int .u64 c, .int .u64 d]) := by rw [h1, h2]

/-- a round of either loop: what comes next. -/
theorem Dv.ways {U yn1 yn0 Y un1 q r : Int} (hY1 : 9223372036854775808 ≤ Y) (hY2 : Y < 18446744073709551616) (ha1 : 2147483648 ≤ yn1) (hb1 : 0 ≤ yn0) (hb2 : yn0 < 4294967296) (hYY : Y = yn1 * 4294967296 + yn0)
    (hU1 : 0 ≤ U) (hU2 : U < Y) (hc1 : 0 ≤ un1) (hc2 : un1 < 4294967296) (g1 : 0 ≤ q) (g4 : U = q * yn1 + r) (g5 : U * 4294967296 + un1 < (q + 1) * Y) :
    ((4294967296 ≤ q ∨ (q < 4294967296 ∧ 4294967296 * r + un1 < q * yn0)) ∧ 1 ≤ q ∧
      ((r + yn1 < 4294967296 ∧ U = (q - 1) * yn1 + (r + yn1) ∧ U * 4294967296 + un1 < (q - 1 + 1) * Y)
       ∨ (4294967296 ≤ r + yn1 ∧ q - 1 < 4294967296 ∧ 0 ≤ U * 4294967296 + un1 - (q - 1) * Y ∧ U * 4294967296 + un1 - (q - 1) * Y < Y)))
    ∨ (q < 4294967296 ∧ q * yn0 ≤ 4294967296 * r + un1 ∧ 0 ≤ U * 4294967296 + un1 - q * Y ∧ U * 4294967296 + un1 - q * Y < Y) := by
  have hN : 0 ≤ U * 4294967296 + un1 := by omega
  by_cases hc : 4294967296 ≤ q ∨ (q < 4294967296 ∧ 4294967296 * r + un1 < q * yn0)
  · refine .inl ⟨hc, ?_⟩
    have hlt : U * 4294967296 + un1 < q * Y := by
      rcases hc with h | h
      · exact Dv.round_ok1 hU2 hc2 hU1 h
      · exact Dv.round_ok2 hYY g4 h.2
    have hp := Dv.pos_ok hN (by omega) hlt
    have he := Dv.step_eq g4
    refine ⟨hp, ?_⟩
    by_cases hb : r + yn1 < 4294967296
    · exact .inl ⟨hb, he, by rw [show q - 1 + 1 = q by omega]; exact hlt⟩
    · have hbk := Dv.break_ok hYY hb1 hb2 (by omega) hU2 hc1 (show 0 ≤ q - 1 by omega) he (by omega)
      obtain ⟨a, b⟩ := Dv.rest_ok hbk (by rw [show q - 1 + 1 = q by omega]; exact hlt)
      exact .inr ⟨by omega, Dv.digit_lt rfl hU2 hc2 (by omega) hbk, a, b⟩
  · have h2 : q * yn0 ≤ 4294967296 * r + un1 := by omega
    have h3 := Dv.exit_ok hYY g4 h2
    obtain ⟨a, b⟩ := Dv.rest_ok h3 g5
    exact .inr ⟨by omega, h2, a, b⟩

end Go.Proofs.YtokkaeaciigapaaDoor

