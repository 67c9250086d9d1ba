/-
  The contracts of the reference's numbers, second part: the sum and the difference of digits.
  Conditions: those of each theorem; at most a million digits; what is subtracted is not greater.
-/
import Derived.Test.YtokkaeaciigapaaDoorZ
namespace Go.Proofs.YtokkaeaciigapaaDoor
open Go.RowKit Go.Shelf Zd Wd

theorem take_val {ps : List Int} (k : Nat) : val (ps.take (k + 1)) = val (ps.take k) + 1000000 ^ k * (if k < ps.length then ps.getD k 0 else 0) := by
  by_cases h : k < ps.length
  · have e : ps.getD k 0 = ps[k] := by simp [List.getD, h]
    have l : (ps.take k).length = k := by rw [List.length_take]; omega
    rw [if_pos h, List.take_succ_eq_append_getElem h, val_append, l, e]
    simp [val]
  · rw [if_neg h, List.take_of_length_le (by omega), List.take_of_length_le (by omega)]; simp
theorem take_all {ps : List Int} {k : Nat} (h : ps.length ≤ k) : val (ps.take k) = val ps := by rw [List.take_of_length_le h]
/-- One place of the sum. -/
theorem sum_step {ds ps qs : List Int} {k : Nat} {c s d c' A B : Int} (h : val ds + 1000000 ^ k * c = val (ps.take k) + s * val (qs.take k)) (hl : ds.length = k)
    (hA : A = if k < ps.length then ps.getD k 0 else 0) (hB : B = if k < qs.length then qs.getD k 0 else 0) (hx : c + A + s * B = d + 1000000 * c') :
    val (ds ++ [d]) + 1000000 ^ (k + 1) * c' = val (ps.take (k + 1)) + s * val (qs.take (k + 1)) := by
  rw [take_val, take_val, ← hA, ← hB, val_append, hl, Int.pow_succ]
  simp only [val]
  have e1 : (1000000 : Int) ^ k * (c + A + s * B) = 1000000 ^ k * (d + 1000000 * c') := by rw [hx]
  simp only [Int.mul_add] at e1 ⊢
  rw [Int.mul_assoc, ← Int.mul_assoc s, Int.mul_comm s (1000000 ^ k), Int.mul_assoc (1000000 ^ k) s]
  simp only [Int.mul_zero, Int.add_zero]
  omega
theorem Zd.Ok.snoc {ds : List Int} {d : Int} (h : Ok ds) (h0 : 0 ≤ d) (h1 : d < 1000000) : Ok (ds ++ [d]) := h.append (Ok.cons h0 h1 Ok.nil)

end Go.Proofs.YtokkaeaciigapaaDoor

