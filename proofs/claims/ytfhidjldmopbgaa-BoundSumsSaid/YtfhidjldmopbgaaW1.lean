/-
  The walks of the laws NumSums, NumQuotients and NumMulDivs.
  Conditions: those of each theorem; arguments are 64-bit numbers.
-/
import Derived.Test.YtfhidjldmopbgaaZG
import Derived.Test.YtfhidjldmopbgaaNumS
set_option linter.unusedSimpArgs false
set_option linter.unusedVariables false
namespace Go.Proofs.Ytfhidjldmopbgaa
open Go.RowKit Go.Shelf Zd Wd

theorem dlen64 {z : Int} (h1 : -9223372036854775808 ≤ z) (h2 : z ≤ 9223372036854775807) : (digs z.natAbs).length ≤ 4 := digs_len (by omega)
theorem sm_le {z : Int} {k : Nat} (h : (digs z.natAbs).length ≤ k) (hk : k ≤ 1000000) : Sm z := by unfold Sm; omega
theorem dlen_mulI {a b : Int} {j k : Nat} (ha : (digs a.natAbs).length ≤ j) (hb : (digs b.natAbs).length ≤ k) : (digs (a * b).natAbs).length ≤ j + k := by
  rw [Int.natAbs_mul]; have := dlen_mul a.natAbs b.natAbs; omega
theorem dlen_addI {a b : Int} {k : Nat} (ha : (digs a.natAbs).length ≤ k) (hb : (digs b.natAbs).length ≤ k) : (digs (a + b).natAbs).length ≤ k + 1 := by
  have h1 := len_le ha
  have h2 := len_le hb
  refine digs_len ?_
  rw [Nat.pow_succ]
  omega
theorem dlen_divI {a b : Int} {k : Nat} (ha : (digs a.natAbs).length ≤ k) : (digs (a / b).natAbs).length ≤ k + 1 := by
  have h1 := len_le ha
  have h2 := Int.natAbs_ediv_le_natAbs a b
  refine digs_len ?_
  rw [Nat.pow_succ]
  omega
theorem dlen_negI {a : Int} {k : Nat} (ha : (digs a.natAbs).length ≤ k) : (digs (-a).natAbs).length ≤ k := by rw [Int.natAbs_neg]; exact ha

end Go.Proofs.Ytfhidjldmopbgaa

