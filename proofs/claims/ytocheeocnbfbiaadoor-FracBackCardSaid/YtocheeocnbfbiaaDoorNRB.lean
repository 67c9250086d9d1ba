/-
  A number's text reads back as the number.
  Conditions: the number is valid (chkV n d = 0).
-/
import Derived.Test.YtocheeocnbfbiaaDoorNR
set_option linter.unusedVariables false
set_option linter.unusedSimpArgs false
namespace Go.Proofs.YtocheeocnbfbiaaDoor.AtFt
open Ev Go.RowKit
open Go.Proofs.YtocheeocnbfbiaaDoor

theorem sl_L : sl_.data.toList.headD 0 = 47 := rfl
theorem itoa_dB {d : Int} (h : 0 ≤ d) : itoaB d = dB d.natAbs := by
  unfold itoaB dB Lib.itoa
  rw [if_neg (by omega), show d.toNat = d.natAbs by omega]
theorem dB_zero {m : Nat} (hm : m ≤ 1152921504606846976) (h : sEq (dB m) ⟨#[48]⟩ = true) : m = 0 := by
  have h1 := (sEq_iff _ _).1 h
  have h0 : dB 0 = ⟨#[48]⟩ := ba_eq (by rw [dB_L, dec_zero])
  have h2 := va_dec hm
  have h3 := va_dec (m := 0) (by omega)
  rw [h1, ← h0, h3] at h2
  omega
theorem rN_of {s : ByteArray} {n : Int} (hA : rA s = dB n.natAbs) (hM : rM s = decide (n < 0)) (hn : n.natAbs ≤ 1152921504606846976) : rN s = n := by
  unfold rN
  rw [hA, hM, va_dec hn]
  by_cases h : n < 0
  · rw [decide_eq_true h, if_pos rfl]; omega
  · rw [decide_eq_false h, if_neg (by simp)]; omega
theorem sgn_of {n : Int} (hn : n.natAbs ≤ 1152921504606846976) : ¬ (decide (n < 0) = true ∧ sEq (dB n.natAbs) ⟨#[48]⟩ = true) := by
  rintro ⟨h1, h2⟩
  have := dB_zero hn h2
  have := of_decide_eq_true h1
  omega
theorem read_whole {n : Int} (hn : n.natAbs ≤ 1152921504606846976) (h : chkV n 1 = 0) : rE (itoaB n) = 0 ∧ rX (itoaB n) = n ∧ rY (itoaB n) = 1 := by
  have hI : cutI (itoaB n) sl_ = -1 := by unfold cutI; rw [sl_L]; exact ix_none (itoa_no n)
  have hS : rS (itoaB n) = false := by unfold rS; rw [hI]; rfl
  have hC : cutA (itoaB n) sl_ = itoaB n := by unfold cutA; rw [hI]; rfl
  have hA : rA (itoaB n) = dB n.natAbs := by unfold rA; rw [hC]; exact (cp_itoa n).1
  have hM : rM (itoaB n) = decide (n < 0) := by unfold rM; rw [hC]; exact (cp_itoa n).2
  have hB : rB (itoaB n) = ⟨#[49]⟩ := by unfold rB; rw [hS]; rfl
  have hN := rN_of hA hM hn
  have hE : rE (itoaB n) = 0 := by
    unfold rE
    rw [hN, hB, hS, hA, hM, va_one, va_dec hn]
    rw [if_pos ⟨nu_dec _, sgn_of hn⟩, if_pos (fun e => by cases e), if_pos ⟨by omega, by omega⟩, if_neg]
    rintro (⟨e, _⟩ | e)
    · cases e
    · exact e h
  refine ⟨hE, ?_, ?_⟩
  · unfold rX; rw [if_pos hE, hN]
  · unfold rY; rw [if_pos hE, hB, va_one]
theorem read_parts {n d : Int} (hn : n.natAbs ≤ 1152921504606846976) (h1 : 1 < d) (hd : d ≤ 1152921504606846976) (h : chkV n d = 0) :
    rE (sCat (itoaB n) (sCat ⟨#[47]⟩ (itoaB d))) = 0 ∧ rX (sCat (itoaB n) (sCat ⟨#[47]⟩ (itoaB d))) = n ∧ rY (sCat (itoaB n) (sCat ⟨#[47]⟩ (itoaB d))) = d := by
  have hL : (sCat (itoaB n) (sCat ⟨#[47]⟩ (itoaB d))).data.toList = (itoaB n).data.toList ++ 47 :: (itoaB d).data.toList := by rw [cat_L, cat_L]; rfl
  generalize hs : sCat (itoaB n) (sCat ⟨#[47]⟩ (itoaB d)) = s at hL ⊢
  have hI : cutI s sl_ = ((itoaB n).data.toList.length : Int) := by unfold cutI; rw [sl_L, hL]; exact ix_app (itoa_no n)
  have hS : rS s = true := by unfold rS; rw [hI]; exact decide_eq_true (by omega)
  have hC : cutA s sl_ = itoaB n := by
    unfold cutA
    rw [hI, if_pos (by omega)]
    refine ba_eq ?_
    rw [show (0 : Int) = ((0 : Nat) : Int) from rfl, sub_L, hL]
    simp
  have hK : cutC s sl_ = itoaB d := by
    unfold cutC
    rw [hI, if_pos (by omega)]
    refine ba_eq ?_
    rw [len_L, show ((itoaB n).data.toList.length : Int) + 1 = (((itoaB n).data.toList.length + 1 : Nat) : Int) by omega, sub_L, hL]
    generalize (itoaB n).data.toList = A
    generalize (itoaB d).data.toList = D
    rw [show A ++ 47 :: D = (A ++ [47]) ++ D by simp, List.drop_left' (by simp), List.take_of_length_le (by simp only [List.length_append, List.length_cons, List.length_nil]; omega)]
  have hA : rA s = dB n.natAbs := by unfold rA; rw [hC]; exact (cp_itoa n).1
  have hM : rM s = decide (n < 0) := by unfold rM; rw [hC]; exact (cp_itoa n).2
  have hD : itoaB d = dB d.natAbs := itoa_dB (by omega)
  have hdn : d.natAbs ≤ 1152921504606846976 := by omega
  have hB : rB s = dB d.natAbs := by unfold rB; rw [hS, if_pos rfl, hK, hD]
  have hN := rN_of hA hM hn
  have hV : vaV (dB d.natAbs) = d := by rw [va_dec hdn]; omega
  have hE : rE s = 0 := by
    unfold rE
    rw [hN, hB, hS, hA, hM, hK, hD, hV, va_dec hn]
    rw [if_pos ⟨nu_dec _, sgn_of hn⟩, if_pos (fun _ => ⟨nu_dec _, fun e => by have := dB_zero hdn e; omega⟩), if_pos ⟨by omega, by omega⟩, if_neg]
    rintro (⟨_, e⟩ | e)
    · omega
    · exact e h
  refine ⟨hE, ?_, ?_⟩
  · unfold rX; rw [if_pos hE, hN]
  · unfold rY; rw [if_pos hE, hB, hV]
/-- A valid number's text is read again as the number. -/
theorem read_ftx {n d : Int} (h : chkV n d = 0) : rE (ftx n d) = 0 ∧ rX (ftx n d) = n ∧ rY (ftx n d) = d := by
  obtain ⟨⟨b1, b2, b3, b4⟩, _⟩ := chkV_zero.1 h
  unfold ftx
  rw [if_pos h]
  by_cases g : 1 < d
  · rw [if_pos g]
    exact read_parts (by omega) g b4 h
  · obtain rfl : d = 1 := by omega
    rw [if_neg g]
    exact read_whole (by omega) h
end Go.Proofs.YtocheeocnbfbiaaDoor.AtFt

