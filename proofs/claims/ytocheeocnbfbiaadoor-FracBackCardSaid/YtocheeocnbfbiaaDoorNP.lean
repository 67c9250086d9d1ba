/-
  Numerals: what value adds up is what the digits spell; a number's numeral reads back as the number.
  Conditions: those of each theorem.
-/
import Derived.Test.YtocheeocnbfbiaaDoorNQ
set_option linter.unusedVariables false
set_option linter.unusedSimpArgs false
namespace Go.Proofs.YtocheeocnbfbiaaDoor.AtFt
open Ev Go.RowKit
open Go.Proofs.YtocheeocnbfbiaaDoor

theorem spl_cons (a : Nat) (b : UInt8) (r : List UInt8) : spl a (b :: r) = spl (a * 10 + (b.toNat - 48)) r := by kernel_rfl
theorem spl_ge : ∀ (l : List UInt8) (a : Nat), a ≤ spl a l
  | [], a => Nat.le_refl _
  | b :: r, a => by
    have := spl_ge r (a * 10 + (b.toNat - 48))
    rw [spl_cons]
    generalize spl (a * 10 + (b.toNat - 48)) r = z at this ⊢
    omega
theorem vF_spl {s : ByteArray} (hd : s.data.toList.all isD = true) : ∀ (k j x : Nat), j + k = s.data.toList.length → x ≤ 1152921504606846976 →
    vF s k j (x : Int) = if spl x (s.data.toList.drop j) ≤ 1152921504606846976 then ((spl x (s.data.toList.drop j) : Nat) : Int) else -1
  | 0, j, x, h, hx => by
    rw [List.drop_eq_nil_of_le (by omega)]
    show (x : Int) = if x ≤ 1152921504606846976 then (x : Int) else -1
    rw [if_pos hx]
  | k + 1, j, x, h, hx => by
    have hj : j < s.data.toList.length := by omega
    have hb : 48 ≤ (s.data.toList[j]'hj).toNat ∧ (s.data.toList[j]'hj).toNat ≤ 57 := by
      rw [List.all_eq_true] at hd
      exact of_decide_eq_true (hd _ (List.getElem_mem hj))
    have e : 10 * (x : Int) + (sAt s (j : Int) - 48) = ((x * 10 + ((s.data.toList[j]'hj).toNat - 48) : Nat) : Int) := by
      rw [at_L s j hj]; omega
    rw [List.drop_eq_getElem_cons hj, spl_cons, vF, e]
    by_cases g : x * 10 + ((s.data.toList[j]'hj).toNat - 48) ≤ 1152921504606846976
    · rw [if_pos (by omega)]
      exact vF_spl hd k (j + 1) _ (by omega) g
    · have := spl_ge (s.data.toList.drop (j + 1)) (x * 10 + ((s.data.toList[j]'hj).toNat - 48))
      rw [if_neg (by omega), if_neg (by omega)]
/-- What value returns of digits. -/
theorem vaV_spl {s : ByteArray} (hd : alD s = true) : vaV s = if spl 0 s.data.toList ≤ 1152921504606846976 then ((spl 0 s.data.toList : Nat) : Int) else -1 := by
  have := vF_spl (s := s) hd s.size 0 0 (by show 0 + s.data.toList.length = _; omega) (by omega)
  rw [List.drop_zero] at this
  exact this

theorem dgt_D {n : Nat} (h : n < 10) : isD (dgt n) = true ∧ (dgt n).toNat = 48 + n := by
  have : n = 0 ∨ n = 1 ∨ n = 2 ∨ n = 3 ∨ n = 4 ∨ n = 5 ∨ n = 6 ∨ n = 7 ∨ n = 8 ∨ n = 9 := by omega
  rcases this with rfl | rfl | rfl | rfl | rfl | rfl | rfl | rfl | rfl | rfl <;> decide
theorem spl_snoc : ∀ (l : List UInt8) (a : Nat) (b : UInt8), spl a (l ++ [b]) = spl a l * 10 + (b.toNat - 48)
  | [], a, b => rfl
  | c :: r, a, b => spl_snoc r _ b
/-- A number's digits spell it. -/
theorem dec_spl (n : Nat) : (Lib.decDigits n).all isD = true ∧ spl 0 (Lib.decDigits n) = n := by
  induction n using Nat.strongRecOn with
  | ind n ih =>
    by_cases h : n < 10
    · rw [dec1 h]
      obtain ⟨d1, d2⟩ := dgt_D h
      refine ⟨by simp [d1], ?_⟩
      show 0 * 10 + ((dgt n).toNat - 48) = n
      omega
    · obtain ⟨i1, i2⟩ := ih (n / 10) (by omega)
      obtain ⟨d1, d2⟩ := dgt_D (n := n % 10) (by omega)
      rw [decT h]
      refine ⟨by rw [List.all_append, i1]; simp [d1], ?_⟩
      rw [spl_snoc, i2]
      omega
/-- Its first digit is no zero, but for 0 itself. -/
theorem dec_head (n : Nat) : Lib.decDigits n ≠ [] ∧ (0 < n → (Lib.decDigits n).headD 0 ≠ 48) := by
  induction n using Nat.strongRecOn with
  | ind n ih =>
    by_cases h : n < 10
    · rw [dec1 h]
      obtain ⟨d1, d2⟩ := dgt_D h
      refine ⟨by simp, fun h0 e => ?_⟩
      have e' : dgt n = 48 := e
      rw [e'] at d2
      have : (48 : UInt8).toNat = 48 := rfl
      omega
    · obtain ⟨i1, i2⟩ := ih (n / 10) (by omega)
      rw [decT h]
      cases hq : Lib.decDigits (n / 10) with
      | nil => exact absurd hq i1
      | cons b r =>
        refine ⟨by simp, fun _ => ?_⟩
        have := i2 (by omega)
        rw [hq] at this
        exact this
end Go.Proofs.YtocheeocnbfbiaaDoor.AtFt

