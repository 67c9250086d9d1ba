/-
  Decimal strings of a fixed width: their bytes, and the numbers that they spell. Pure.
  Conditions: those of each theorem.
-/
import Derived.Test.YtocheeocnbfbiaaDoorEv2
import Derived.Lib.ItoaNum
import Derived.Lib.Atoi
import Derived.Lib.Repeat
set_option linter.unusedVariables false
set_option linter.unusedSimpArgs false
namespace Go.Proofs.YtocheeocnbfbiaaDoor.Ev
open Go Go.Proofs Go.RowKit

theorem ba_eq {a b : ByteArray} (h : a.data.toList = b.data.toList) : a = b := by
  cases a; cases b
  congr 1
  exact Array.toList_inj.1 h
theorem cat_L (a b : ByteArray) : (sCat a b).data.toList = a.data.toList ++ b.data.toList := by
  show (a ++ b).data.toList = _
  rw [ByteArray.data_append, Array.toList_append]
theorem len_L (a : ByteArray) : sLen a = (a.data.toList.length : Int) := by rfl
theorem sub_L (s : ByteArray) (a b : Nat) : (sSub s (a : Int) (b : Int)).data.toList = (s.data.toList.drop a).take (b - a) := by
  unfold sSub
  rw [Int.toNat_natCast, Int.toNat_natCast, ByteArray.data_extract, Array.toList_extract, List.extract_eq_take_drop]
theorem at_L (s : ByteArray) (i : Nat) (h : i < s.data.toList.length) : sAt s (i : Int) = ((s.data.toList[i]'h).toNat : Int) := by
  unfold sAt
  have h' : i < s.size := h
  rw [Int.toNat_natCast, getElem?_pos s i h']
  rfl
/-- A digit's byte. -/
def dgt (n : Nat) : UInt8 := UInt8.ofNat (48 + n)
theorem rune_L {n : Nat} (h : n < 10) : (sRune (48 + (n : Int))).data.toList = [dgt n] := by
  have : n = 0 ∨ n = 1 ∨ n = 2 ∨ n = 3 ∨ n = 4 ∨ n = 5 ∨ n = 6 ∨ n = 7 ∨ n = 8 ∨ n = 9 := by omega
  rcases this with rfl | rfl | rfl | rfl | rfl | rfl | rfl | rfl | rfl | rfl <;> decide
/-- A number's numeral. -/
def itoaB (n : Int) : ByteArray := ⟨(Lib.itoa n).toArray⟩
/-- A string again and again. -/
def repB (s : ByteArray) (k : Int) : ByteArray := ⟨(Lib.repeatL s.data.toList k.toNat).toArray⟩
theorem itoa_L (n : Nat) : (itoaB (n : Int)).data.toList = Lib.decDigits n := by
  unfold itoaB Lib.itoa
  rw [if_neg (by omega), Int.toNat_natCast]
theorem rep0_L (k : Nat) : (repB ⟨#[48]⟩ (k : Int)).data.toList = List.replicate k 48 := by
  unfold repB
  rw [Int.toNat_natCast]
  show Lib.repeatL [48] k = _
  induction k with
  | zero => rfl
  | succ k ih => rw [Lib.repeatL, ih]; rfl
theorem dec1 {n : Nat} (h : n < 10) : Lib.decDigits n = [dgt n] := by rw [Lib.decDigits, dif_pos h]; rfl
theorem decT {n : Nat} (h : ¬ n < 10) : Lib.decDigits n = Lib.decDigits (n / 10) ++ [dgt (n % 10)] := by rw [Lib.decDigits, dif_neg h]; rfl
/-- The bytes of a number with k digits. -/
def wid : Nat → Nat → List UInt8
  | 0, _ => []
  | k + 1, n => wid k (n / 10) ++ [dgt (n % 10)]
theorem wid_len : ∀ (k n : Nat), (wid k n).length = k
  | 0, _ => rfl
  | k + 1, n => by rw [wid, List.length_append, wid_len k]; rfl
theorem wid_0 : ∀ (k : Nat), wid k 0 = List.replicate k 48
  | 0 => rfl
  | k + 1 => by
    rw [wid, Nat.zero_div, wid_0 k]
    show List.replicate k 48 ++ [48] = _
    rw [← List.replicate_succ']
theorem dec_wid : ∀ (k n : Nat), n < 10 ^ (k + 1) → ∃ j, j ≤ k ∧ (Lib.decDigits n).length = j + 1 ∧ List.replicate (k - j) 48 ++ Lib.decDigits n = wid (k + 1) n
  | 0, n, h => by
    have h' : n < 10 := by simpa using h
    refine ⟨0, Nat.le_refl _, ?_, ?_⟩
    · rw [dec1 h']; rfl
    · rw [dec1 h']
      show [dgt n] = wid 0 (n / 10) ++ [dgt (n % 10)]
      rw [Nat.mod_eq_of_lt h']; rfl
  | k + 1, n, h => by
    by_cases h' : n < 10
    · refine ⟨0, Nat.zero_le _, by rw [dec1 h']; rfl, ?_⟩
      rw [dec1 h', wid, Nat.div_eq_of_lt h', wid_0, Nat.mod_eq_of_lt h']
      rfl
    · have h10 : n / 10 < 10 ^ (k + 1) := by
        rw [Nat.pow_succ] at h
        omega
      obtain ⟨j, hj, hl, he⟩ := dec_wid k (n / 10) h10
      refine ⟨j + 1, by omega, ?_, ?_⟩
      · rw [decT h', List.length_append, hl]; rfl
      · rw [decT h', ← List.append_assoc, show k + 1 - (j + 1) = k - j by omega, he]
        rfl
/-- What a program's text prints: zeros in front of the numeral. -/
theorem pad_wid {k n : Nat} (h : n < 10 ^ (k + 1)) : (sCat (repB ⟨#[48]⟩ (((k + 1 : Nat) : Int) - sLen (itoaB (n : Int)))) (itoaB (n : Int))).data.toList = wid (k + 1) n ∧ 1 ≤ sLen (itoaB (n : Int)) ∧ sLen (itoaB (n : Int)) ≤ ((k + 1 : Nat) : Int) := by
  obtain ⟨j, hj, hl, he⟩ := dec_wid k n h
  have e : sLen (itoaB (n : Int)) = ((j + 1 : Nat) : Int) := by rw [len_L, itoa_L, hl]
  rw [e]
  refine ⟨?_, by omega, by omega⟩
  rw [cat_L, itoa_L, show ((k + 1 : Nat) : Int) - ((j + 1 : Nat) : Int) = ((k - j : Nat) : Int) by omega, rep0_L, he]
theorem wid_cat (k n : Nat) {s : ByteArray} {l : List UInt8} (hs : s.data.toList = l) : wid k (n / 10) ++ ([dgt (n % 10)] ++ l) = wid (k + 1) n ++ l := by rw [wid, List.append_assoc]

/-! ### What digits spell -/
/-- The number that bytes spell. -/
def spl : Nat → List UInt8 → Nat
  | a, [] => a
  | a, b :: r => spl (a * 10 + (b.toNat - 48)) r
def isD (b : UInt8) : Bool := decide (48 ≤ b.toNat ∧ b.toNat ≤ 57)
theorem decFrom_spl : ∀ (l : List UInt8) (a : Nat), l.all isD = true → Lib.decFrom a l = some (spl a l)
  | [], a, _ => rfl
  | b :: r, a, h => by
    rw [List.all_cons, Bool.and_eq_true] at h
    have hb : 48 ≤ b.toNat ∧ b.toNat ≤ 57 := of_decide_eq_true h.1
    rw [Lib.decFrom, Lib.digitVal, if_pos hb]
    exact decFrom_spl r _ h.2
theorem atoi_spl {l : List UInt8} (hn : l ≠ []) (h : l.all isD = true) : Lib.atoi l = some (spl 0 l : Int) := by
  cases l with
  | nil => exact absurd rfl hn
  | cons b r =>
    have hb : 48 ≤ b.toNat ∧ b.toNat ≤ 57 := by
      rw [List.all_cons, Bool.and_eq_true] at h
      exact of_decide_eq_true h.1
    have h1 : (b == 45) = false := by
      rw [beq_eq_false_iff_ne]; rintro rfl; simp at hb
    have h2 : (b == 43) = false := by
      rw [beq_eq_false_iff_ne]; rintro rfl; simp at hb
    have e : Lib.decNat (b :: r) = some (spl 0 (b :: r)) := by
      show (if (b :: r).isEmpty = true then none else Lib.decFrom 0 (b :: r)) = _
      rw [if_neg (by simp), decFrom_spl _ _ h]
    show (if (b == 45) = true then _ else if (b == 43) = true then _ else _) = _
    rw [h1, h2, if_neg (by simp), if_neg (by simp), e]
    rfl
theorem spl_lt : ∀ (l : List UInt8) (a k : Nat), l.all isD = true → a < 10 ^ k → spl a l < 10 ^ (k + l.length)
  | [], a, k, _, h => h
  | b :: r, a, k, hd, h => by
    rw [List.all_cons, Bool.and_eq_true] at hd
    have hb : 48 ≤ b.toNat ∧ b.toNat ≤ 57 := of_decide_eq_true hd.1
    have e : 10 ^ (k + 1) = 10 ^ k * 10 := Nat.pow_succ ..
    have := spl_lt r (a * 10 + (b.toNat - 48)) (k + 1) hd.2 (by rw [e]; generalize 10 ^ k = p at h ⊢; omega)
    rw [List.length_cons, show k + (r.length + 1) = k + 1 + r.length by omega]
    exact this
end Go.Proofs.YtocheeocnbfbiaaDoor.Ev

