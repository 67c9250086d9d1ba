/-
  A number's numeral, read: where it is cut, its sign, what it spells.
  Conditions: those of each theorem.
-/
import Derived.Test.YtocheeocnbfbiaaDoorNO
set_option linter.unusedVariables false
set_option linter.unusedSimpArgs false
namespace Go.Proofs.YtocheeocnbfbiaaDoor.AtFt
open Ev Go.RowKit
open Go.Proofs.YtocheeocnbfbiaaDoor

theorem ix_none : ∀ {l : List UInt8} {c : UInt8}, (∀ b ∈ l, b ≠ c) → Lib.indexByte l c = -1
  | [], c, _ => rfl
  | b :: r, c, h => by
    have ih := ix_none (l := r) (c := c) (fun x hx => h x (List.mem_cons_of_mem _ hx))
    have hb : (b == c) = false := beq_eq_false_iff_ne.2 (h b (List.mem_cons_self ..))
    rw [Lib.indexByte, hb, ih]; rfl
theorem ix_app : ∀ {l m : List UInt8} {c : UInt8}, (∀ b ∈ l, b ≠ c) → Lib.indexByte (l ++ c :: m) c = (l.length : Int)
  | [], m, c, _ => by show Lib.indexByte (c :: m) c = 0; rw [Lib.indexByte, beq_self_eq_true]; rfl
  | b :: r, m, c, h => by
    have ih := ix_app (l := r) (m := m) (c := c) (fun x hx => h x (List.mem_cons_of_mem _ hx))
    have hb : (b == c) = false := beq_eq_false_iff_ne.2 (h b (List.mem_cons_self ..))
    show Lib.indexByte (b :: (r ++ c :: m)) c = _
    rw [Lib.indexByte, hb, ih]
    have h1 : ((r.length : Int) == -1) = false := beq_eq_false_iff_ne.2 (by omega)
    rw [h1]
    simp
/-- A numeral without a sign. -/
def dB (m : Nat) : ByteArray := ⟨(Lib.decDigits m).toArray⟩
theorem dB_L (m : Nat) : (dB m).data.toList = Lib.decDigits m := by unfold dB; simp
theorem dec_in {m : Nat} {b : UInt8} (h : b ∈ Lib.decDigits m) : 48 ≤ b.toNat ∧ b.toNat ≤ 57 := by
  have := (dec_spl m).1
  rw [List.all_eq_true] at this
  exact of_decide_eq_true (this b h)
theorem dec_zero : Lib.decDigits 0 = [48] := by rw [dec1 (by omega)]; rfl
theorem va_dec {m : Nat} (h : m ≤ 1152921504606846976) : vaV (dB m) = (m : Int) := by
  have hd : alD (dB m) = true := by unfold alD; rw [dB_L]; exact (dec_spl m).1
  rw [vaV_spl hd, dB_L, (dec_spl m).2, if_pos h]
theorem nu_dec (m : Nat) : nuB (dB m) = true := by
  have hd : alD (dB m) = true := by unfold alD; rw [dB_L]; exact (dec_spl m).1
  obtain ⟨h1, h2⟩ := dec_head m
  have e0 : sEq (dB m) ⟨#[]⟩ = false := by
    cases h : sEq (dB m) ⟨#[]⟩ with
    | false => rfl
    | true =>
      exfalso
      have := (sEq_iff _ _).1 h
      have h3 := dB_L m
      rw [this] at h3
      exact h1 h3.symm
  unfold nuB
  rw [e0, hd]
  by_cases hm : m = 0
  · subst hm
    have : dB 0 = ⟨#[48]⟩ := ba_eq (by rw [dB_L, dec_zero])
    rw [this, (sEq_iff (⟨#[48]⟩ : ByteArray) ⟨#[48]⟩).2 rfl]
    simp
  · have hlen : 0 < (dB m).data.toList.length := by rw [dB_L]; exact List.length_pos_iff.2 h1
    have hz : decide (sAt (dB m) 0 = 48) = false := by
      refine decide_eq_false fun e => ?_
      have := at_L (dB m) 0 hlen
      rw [show ((0 : Nat) : Int) = 0 from rfl, e] at this
      have h3 := h2 (by omega)
      apply h3
      have h4 : (Lib.decDigits m).headD 0 = (dB m).data.toList[0]'hlen := by
        have h5 := dB_L m
        cases hq : Lib.decDigits m with
        | nil => exact absurd hq h1
        | cons b r => simp [h5, hq]
      rw [h4]
      exact UInt8.toNat_inj.1 (by show _ = 48; omega)
    rw [hz]
    rfl
/-- The sign and the digits of a numeral. -/
theorem cp_itoa (n : Int) : cpA (itoaB n) mi_ = dB n.natAbs ∧ cpO (itoaB n) mi_ = decide (n < 0) := by
  have hmi : mi_.data.toList = [45] := rfl
  unfold cpA cpO Lib.trimPrefix
  rw [hmi]
  by_cases h : n < 0
  · have e : (itoaB n).data.toList = 45 :: Lib.decDigits n.natAbs := by unfold itoaB Lib.itoa; rw [if_pos h]
    have hp : Lib.hasPrefix (45 :: Lib.decDigits n.natAbs) [45] = true := by unfold Lib.hasPrefix; simp [List.isPrefixOf]
    rw [e, hp, decide_eq_true h, if_pos rfl]
    exact ⟨rfl, rfl⟩
  · have e : (itoaB n).data.toList = Lib.decDigits n.natAbs := by
      unfold itoaB Lib.itoa
      rw [if_neg h, show n.toNat = n.natAbs by omega]
    have hp : Lib.hasPrefix (Lib.decDigits n.natAbs) [45] = false := by
      obtain ⟨h1, _⟩ := dec_head n.natAbs
      cases hq : Lib.decDigits n.natAbs with
      | nil => exact absurd hq h1
      | cons b r =>
        have hb := dec_in (m := n.natAbs) (b := b) (by rw [hq]; exact List.mem_cons_self ..)
        unfold Lib.hasPrefix
        simp only [List.isPrefixOf, Bool.and_true]
        rw [beq_eq_false_iff_ne]
        rintro rfl
        simp at hb
    rw [e, hp, decide_eq_false h, if_neg (by simp)]
    exact ⟨rfl, rfl⟩
/-- No slash in a numeral. -/
theorem itoa_no (n : Int) : ∀ b ∈ (itoaB n).data.toList, b ≠ 47 := by
  intro b hb e
  subst e
  by_cases h : n < 0
  · have e : (itoaB n).data.toList = 45 :: Lib.decDigits n.natAbs := by unfold itoaB Lib.itoa; rw [if_pos h]
    rw [e] at hb
    rcases List.mem_cons.1 hb with h1 | h1
    · exact absurd h1 (by decide)
    · have := dec_in h1; simp at this
  · have e : (itoaB n).data.toList = Lib.decDigits n.natAbs := by
      unfold itoaB Lib.itoa
      rw [if_neg h, show n.toNat = n.natAbs by omega]
    rw [e] at hb
    have := dec_in hb
    simp at this
end Go.Proofs.YtocheeocnbfbiaaDoor.AtFt

