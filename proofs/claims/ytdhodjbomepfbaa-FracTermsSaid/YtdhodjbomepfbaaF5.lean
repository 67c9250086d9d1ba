/-
  The contracts of frac.Sub, frac.Div and frac.Cmp.
  Conditions: the arguments are int64.
-/
import Derived.Test.YtdhodjbomepfbaaF4
set_option linter.unusedVariables false
set_option linter.unusedSimpArgs false
namespace Go.Proofs.Ytdhodjbomepfbaa
open Go.RowKit Go.Shelf Wd

theorem chkV_least (d : Int) : chkV (-9223372036854775808) d = 4 := chkV_no (Bool.eq_false_iff.2 fun h => by have := frOk_iff.1 h; omega)
theorem add_neg_wrap (a b c d : Int) (c1 : -9223372036854775808 ≤ c) (c2 : c ≤ 9223372036854775807) :
    addA a b (Go.RowKit.wrap64 (-c)) d = addA a b (-c) d ∧ addB a b (Go.RowKit.wrap64 (-c)) d = addB a b (-c) d ∧ addE a b (Go.RowKit.wrap64 (-c)) d = addE a b (-c) d := by
  rcases Int.lt_or_le (-9223372036854775808) c with h | h
  · rw [wrap_id64 (by omega) (by omega)]; exact ⟨rfl, rfl, rfl⟩
  · obtain rfl : c = -9223372036854775808 := by omega
    have e : Go.RowKit.wrap64 (- -9223372036854775808) = -9223372036854775808 := by rw [show Go.RowKit.wrap64 (- -9223372036854775808) = IntKind.i64.wrap (- -9223372036854775808) from (Go.IntWalk.i64_left _).symm, IntKind.wrap_i64]; omega
    rw [e]
    have e2 := chk2_neg a b (-9223372036854775808) d
    have n1 : ¬ chk2 a b (-9223372036854775808) d = 0 := by
      unfold chk2; rw [chkV_least]; split <;> omega
    unfold addA addB addE
    rw [e2, if_neg n1, if_neg n1, if_neg n1, if_neg n1, if_neg n1, if_neg n1]
    exact ⟨rfl, rfl, rfl⟩
theorem div_flip (a b c d : Int) (h1 : Fv a b) (h2 : Fv c d) (hc : c < 0) : mulA a b (-d) (-c) = divfA a b c d ∧ mulB a b (-d) (-c) = divfB a b c d ∧ mulE a b (-d) (-c) = divfE a b c d := by
  have k2 := h2.bd
  have v : Fv (-d) (-c) := ⟨by omega, by rw [gcd_neg_l, Int.gcd_neg, Int.gcd_comm]; exact h2.2⟩
  have h0 := chk2_zero.2 ⟨h1, h2⟩
  have h3 := chk2_zero.2 ⟨h1, v⟩
  unfold mulA mulB mulE divfA divfB divfE
  rw [if_pos h0, if_pos h0, if_pos h0, if_pos h3, if_pos h3, if_pos h3, if_neg (by omega), if_neg (by omega), if_neg (by omega)]
  have hD : b * c ≠ 0 := Int.mul_ne_zero (Int.ne_of_gt h1.pos) (by omega)
  obtain ⟨r1, r2⟩ := red_neg (a * d) (b * c) hD
  unfold lowA lowB lowE
  rw [Int.mul_neg, Int.mul_neg, r1, r2]
  exact ⟨rfl, rfl, rfl⟩
theorem div_up (a b c d : Int) (h1 : Fv a b) (h2 : Fv c d) (hc : 0 < c) : mulA a b d c = divfA a b c d ∧ mulB a b d c = divfB a b c d ∧ mulE a b d c = divfE a b c d := by
  have k2 := h2.bd
  have v : Fv d c := ⟨by omega, by rw [Int.gcd_comm]; exact h2.2⟩
  have h0 := chk2_zero.2 ⟨h1, h2⟩
  have h3 := chk2_zero.2 ⟨h1, v⟩
  unfold mulA mulB mulE divfA divfB divfE
  rw [if_pos h0, if_pos h0, if_pos h0, if_pos h3, if_pos h3, if_pos h3, if_neg (by omega), if_neg (by omega), if_neg (by omega)]
  exact ⟨rfl, rfl, rfl⟩
end Go.Proofs.Ytdhodjbomepfbaa

