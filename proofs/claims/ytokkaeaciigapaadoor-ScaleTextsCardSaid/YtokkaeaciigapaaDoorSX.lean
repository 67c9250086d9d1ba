/-
  Package scale's texts of civil times, the program's and the reference's, as functions.
  Conditions: those of each theorem.
-/
import Derived.Test.YtokkaeaciigapaaDoorIV
import Derived.Test.YtokkaeaciigapaaDoorSM
import Derived.Test.YtokkaeaciigapaaDoorDA
import Derived.Test.YtokkaeaciigapaaDoorShelf
import Derived.Lib.AppendIntMem
set_option linter.unusedVariables false
set_option linter.unusedSimpArgs false
namespace Go.Proofs.YtokkaeaciigapaaDoor.AtSx
open Ev Go.RowKit Sc RL
open Go.Proofs.YtokkaeaciigapaaDoor
variable {F : Type}
noncomputable section

/-- The library's table, at all times. -/
noncomputable abbrev powQ (B : Nat) : World → Prop := tabQ Tryd.prog "internal/strconv.uint64pow10" .u64 Lib.pow10Tab B
noncomputable def sqI (B : Nat) : Interp Empty := noFacts.above rfl B (powQ B) tabQ_mono
/-- A number with k digits. -/
def widB (k n : Int) : ByteArray := ⟨(wid k.toNat n.toNat).toArray⟩
abbrev itS : FnSp F := sp1 (dInt .i64) (fun n => aStr (itoaB n)) (fun n => [(decide (-9223372036854775808 ≤ n), true), (decide (n ≤ 9223372036854775807), true)])
abbrev repS : FnSp F := sp2 dStr (dInt .i64) (fun s k => aStr (repB s k)) (fun s k => [(decide (0 ≤ k), true), (decide (k ≤ 9223372036854775807), true), (decide (sLen s * k ≤ 140737488355328), true)])
abbrev padS : FnSp F := sp2 (dInt .i64) (dInt .i64) (fun n k => aStr (widB k n)) (fun n k => [(decide (0 ≤ n), true), (decide (2 ≤ k), true), (decide (k ≤ 4), true), (decide (n < (10 : Int) ^ k.toNat), true)])
noncomputable abbrev libP1 : List (Nat × FnSp Empty) := [(21, itS), (22, repS)]
theorem it_ok (B : Nat) : (itS : FnSp Empty).ok Tryd.prog (sqI B) 21 := sp1q_ok fun n hc => ⟨_, rfl, fun w hw => by
  have h0 := of_decide_eq_true (hc (decide (-9223372036854775808 ≤ n), true) (by simp))
  have h1 := of_decide_eq_true (hc (decide (n ≤ 9223372036854775807), true) (by simp))
  refine (Tryd.strconv_Itoa n h0 h1 w (tabQ_here hw.2)).mono ?_
  rintro e w' ⟨rfl, k, os, rfl⟩
  exact ⟨rfl, Lib.below_grow _ w (Nat.le_refl _) k os⟩⟩
theorem rep_ok (I : Interp F) : (repS : FnSp F).ok Tryd.prog I 22 := sp2_ok fun s k hc => ⟨_, rfl, fun w => by
  have h0 := of_decide_eq_true (hc (decide (0 ≤ k), true) (by simp))
  have h1 := of_decide_eq_true (hc (decide (k ≤ 9223372036854775807), true) (by simp))
  have h2 := of_decide_eq_true (hc (decide (sLen s * k ≤ 140737488355328), true) (by simp))
  obtain ⟨m, rfl⟩ := Int.eq_ofNat_of_zero_le h0
  have h3 : s.size * m ≤ 140737488355328 := by
    have : ((s.size * m : Nat) : Int) ≤ 140737488355328 := by rw [Int.natCast_mul]; exact h2
    omega
  refine (Tryd.strings_Repeat s m w (by omega) h3).mono ?_
  rintro e w' ⟨rfl, hb⟩
  exact ⟨by unfold repB; rw [Int.toNat_natCast], hb⟩⟩
theorem libP1_ok (B : Nat) : LibOk Tryd.prog (sqI B) (lib1 libP1) := (lib1_cons (it_ok B) Tryd.call21 (lib1_cons (rep_ok _) Tryd.call22 (lib1_nil _ _)))
theorem widB_L (k n : Nat) : (widB (k : Int) (n : Int)).data.toList = wid k n := by unfold widB; rw [Int.toNat_natCast, Int.toNat_natCast]
theorem len_cat (a b : ByteArray) : sLen (sCat a b) = sLen a + sLen b := by rw [len_L, len_L, len_L, cat_L, List.length_append]; omega
theorem len_wid (k n : Int) : sLen (widB k n) = (k.toNat : Int) := by rw [len_L]; unfold widB; rw [wid_len]
theorem dv (m : Nat) (h : m < 1000000) : IntKind.i64.wrap ((m : Int).tdiv 10) = ((m / 10 : Nat) : Int) := by
  rw [Int.tdiv_eq_ediv_of_nonneg (by omega), show (m : Int) / 10 = ((m / 10 : Nat) : Int) by omega]
  exact IntWalk.i64_in _ (by omega)
theorem rn (m : Nat) (h : m < 1000000) : sRune (IntKind.i32.wrap (IntKind.i64.wrap ((48 : Int) + (m : Int).tmod 10))) = (⟨#[dgt (m % 10)]⟩ : ByteArray) := by
  rw [Int.tmod_eq_emod_of_nonneg (by omega), show (m : Int) % 10 = ((m % 10 : Nat) : Int) by omega, IntWalk.i64_in _ (by omega)]
  have : IntKind.i32.wrap (48 + ((m % 10 : Nat) : Int)) = 48 + ((m % 10 : Nat) : Int) := by
    unfold IntKind.wrap
    simp [IntKind.bits, IntKind.signed]
    omega
  rw [this]
  exact ba_eq (by rw [rune_L (by omega)])
set_option maxRecDepth 100000 in
theorem pdf_ (B : Nat) (n : Int) (k : Int) : evR (ctxOf Tryd.prog (sqI B) (fun _ => false) libP1) Tryd.f10 [(.w (.one (.int .i64 n))), (.w (.one (.int .i64 k)))] [] = some (AV.w (AW.one (AC.lit (Value.string (sCat (repB (⟨#[48]⟩ : ByteArray) (IntKind.i64.wrap (k - sLen (itoaB n)))) (itoaB n))))), (pickL [(decide ((-9223372036854775808 : Int) ≤ n), true), (decide (n ≤ 9223372036854775807), true), (decide ((0 : Int) ≤ IntKind.i64.wrap (k - sLen (itoaB n))), true), (decide (IntKind.i64.wrap (k - sLen (itoaB n)) ≤ 9223372036854775807), true), (decide (sLen (⟨#[48]⟩ : ByteArray) * IntKind.i64.wrap (k - sLen (itoaB n)) ≤ 140737488355328), true), (decide (sLen (repB (⟨#[48]⟩ : ByteArray) (IntKind.i64.wrap (k - sLen (itoaB n)))) + sLen (itoaB n) ≤ 9223372036854775807), true)] [0, 1, 2, 3, 4, 5])) := by kernel_rfl
theorem pad_pl (B : Nat) (n k : Int) (h0 : 0 ≤ n) (h2 : 2 ≤ k) (h4 : k ≤ 4) (h : n < (10 : Int) ^ k.toNat) : PlI (sqI B).bs Tryd.prog 10 [.int .i64 n, .int .i64 k] (.string (widB k n)) := fun w hw => by
  obtain ⟨m, rfl⟩ := Int.eq_ofNat_of_zero_le h0
  obtain ⟨j, rfl⟩ : ∃ j : Nat, k = ((j + 1 : Nat) : Int) := ⟨k.toNat - 1, by omega⟩
  have hm : m < 10 ^ (j + 1) := by
    rw [Int.toNat_natCast] at h
    exact_mod_cast h
  obtain ⟨p1, p2, p3⟩ := pad_wid hm
  have hj : j ≤ 3 := by omega
  have hbig : m ≤ 10000 := by
    have : 10 ^ (j + 1) ≤ 10 ^ 4 := Nat.pow_le_pow_right (by omega) (by omega)
    omega
  have e : IntKind.i64.wrap (((j + 1 : Nat) : Int) - sLen (itoaB (m : Int))) = ((j + 1 : Nat) : Int) - sLen (itoaB (m : Int)) := IntWalk.i64_in _ (by omega)
  have V : sCat (repB ⟨#[48]⟩ (IntKind.i64.wrap (((j + 1 : Nat) : Int) - sLen (itoaB (m : Int))))) (itoaB (m : Int)) = widB ((j + 1 : Nat) : Int) (m : Int) := ba_eq (by rw [e, p1, widB_L])
  have hl : sLen (⟨#[48]⟩ : ByteArray) = 1 := rfl
  have hlen := len_cat (repB ⟨#[48]⟩ (IntKind.i64.wrap (((j + 1 : Nat) : Int) - sLen (itoaB (m : Int))))) (itoaB (m : Int))
  rw [V, len_wid, Int.toNat_natCast] at hlen
  rw [← V]
  refine evR_calls (I := sqI B) (v := .string _) (ctxOf_ok (libP1_ok B) (eq_none _)) (by kernel_rfl) Tryd.func10 rfl lps_nil (pdf_ B (m : Int) ((j + 1 : Nat) : Int)) rfl (all2_R (.cons rfl (.cons rfl .nil))) rfl w hw.1 (pickL_ok ?_ _) hw.2
  repeat' (first | exact cd_nil | refine cd_cons ?_ ?_)
  all_goals first | rfl | exact decide_eq_true (by omega) | (rw [e, hl]; exact decide_eq_true (by omega)) | (rw [e]; exact decide_eq_true (by omega)) | (rw [← hlen]; exact decide_eq_true (by omega))
set_option maxRecDepth 100000 in
theorem dg2_110 (x : Int) : evR (ctxOf Tryd.prog noFacts (fun _ => false) []) Tryd.f12 [(.w (.one (.int .i64 x))), (.w (.one (.int .i64 2)))] [true, true, false] = some (AV.w (AW.one (AC.lit (Value.string (sCat (sRune (IntKind.i32.wrap (IntKind.i64.wrap ((48 : Int) + (IntKind.i64.wrap (x.tdiv 10)).tmod 10)))) (sCat (sRune (IntKind.i32.wrap (IntKind.i64.wrap ((48 : Int) + x.tmod 10)))) (⟨#[]⟩ : ByteArray)))))), (pickL [(decide ((0 : Int) < 2), true), (decide ((10 : Int) = 0), false), (decide (sLen (sRune (IntKind.i32.wrap (IntKind.i64.wrap ((48 : Int) + x.tmod 10)))) + sLen (⟨#[]⟩ : ByteArray) ≤ 9223372036854775807), true), (decide (IntKind.i64.wrap ((0 : Int) + 1) < 2), true), (decide (sLen (sRune (IntKind.i32.wrap (IntKind.i64.wrap ((48 : Int) + (IntKind.i64.wrap (x.tdiv 10)).tmod 10)))) + sLen (sCat (sRune (IntKind.i32.wrap (IntKind.i64.wrap ((48 : Int) + x.tmod 10)))) (⟨#[]⟩ : ByteArray)) ≤ 9223372036854775807), true), (decide (IntKind.i64.wrap (IntKind.i64.wrap ((0 : Int) + 1) + 1) < 2), false)] [0, 1, 2, 1, 3, 1, 4, 1, 5])) := by kernel_rfl
theorem dgp2 (m : Nat) (h : m < 100000) : Pl Tryd.prog 12 [.int .i64 (m : Int), .int .i64 2] (.string (widB 2 (m : Int))) := fun w => by
  have V : (sCat (sRune (IntKind.i32.wrap (IntKind.i64.wrap ((48 : Int) + (IntKind.i64.wrap ((m : Int).tdiv 10)).tmod 10)))) (sCat (sRune (IntKind.i32.wrap (IntKind.i64.wrap ((48 : Int) + (m : Int).tmod 10)))) (⟨#[]⟩ : ByteArray))) = widB 2 (m : Int) := by
    rw [dv m (by omega), rn m (by omega), rn (m / 10) (by omega)]
    refine ba_eq ?_
    rw [show ((2 : Int)) = ((2 : Nat) : Int) from rfl, widB_L]
    simp only [cat_L, wid, List.nil_append, List.append_assoc, List.append_nil]
  have hl0 : sLen (⟨#[]⟩ : ByteArray) = 0 := rfl
  have hl1 : ∀ b : UInt8, sLen (⟨#[b]⟩ : ByteArray) = 1 := fun b => rfl
  rw [← V]
  refine evR_calls (I := noFacts) (v := .string _) (ctxOf_ok (lib1_nil _ _) (eq_none _)) (by kernel_rfl) Tryd.func12 rfl lps_nil (dg2_110 (m : Int)) rfl (all2_R (.cons rfl (.cons rfl .nil))) rfl w (Nat.zero_le _) (pickL_ok ?_ _)
  repeat' (first | exact cd_nil | refine cd_cons ?_ ?_)
  all_goals first | rfl | decide | (simp only [dv m (by omega), dv (m / 10) (by omega), dv (m / 10 / 10) (by omega), rn m (by omega), rn (m / 10) (by omega), rn (m / 10 / 10) (by omega), rn (m / 10 / 10 / 10) (by omega), len_cat, hl1, hl0]; decide)
set_option maxRecDepth 100000 in
theorem dg3_1110 (x : Int) : evR (ctxOf Tryd.prog noFacts (fun _ => false) []) Tryd.f12 [(.w (.one (.int .i64 x))), (.w (.one (.int .i64 3)))] [true, true, true, false] = some (AV.w (AW.one (AC.lit (Value.string (sCat (sRune (IntKind.i32.wrap (IntKind.i64.wrap ((48 : Int) + (IntKind.i64.wrap ((IntKind.i64.wrap (x.tdiv 10)).tdiv 10)).tmod 10)))) (sCat (sRune (IntKind.i32.wrap (IntKind.i64.wrap ((48 : Int) + (IntKind.i64.wrap (x.tdiv 10)).tmod 10)))) (sCat (sRune (IntKind.i32.wrap (IntKind.i64.wrap ((48 : Int) + x.tmod 10)))) (⟨#[]⟩ : ByteArray))))))), (pickL [(decide ((0 : Int) < 3), true), (decide ((10 : Int) = 0), false), (decide (sLen (sRune (IntKind.i32.wrap (IntKind.i64.wrap ((48 : Int) + x.tmod 10)))) + sLen (⟨#[]⟩ : ByteArray) ≤ 9223372036854775807), true), (decide (IntKind.i64.wrap ((0 : Int) + 1) < 3), true), (decide (sLen (sRune (IntKind.i32.wrap (IntKind.i64.wrap ((48 : Int) + (IntKind.i64.wrap (x.tdiv 10)).tmod 10)))) + sLen (sCat (sRune (IntKind.i32.wrap (IntKind.i64.wrap ((48 : Int) + x.tmod 10)))) (⟨#[]⟩ : ByteArray)) ≤ 9223372036854775807), true), (decide (IntKind.i64.wrap (IntKind.i64.wrap ((0 : Int) + 1) + 1) < 3), true), (decide (sLen (sRune (IntKind.i32.wrap (IntKind.i64.wrap ((48 : Int) + (IntKind.i64.wrap ((IntKind.i64.wrap (x.tdiv 10)).tdiv 10)).tmod 10)))) + sLen (sCat (sRune (IntKind.i32.wrap (IntKind.i64.wrap ((48 : Int) + (IntKind.i64.wrap (x.tdiv 10)).tmod 10)))) (sCat (sRune (IntKind.i32.wrap (IntKind.i64.wrap ((48 : Int) + x.tmod 10)))) (⟨#[]⟩ : ByteArray))) ≤ 9223372036854775807), true), (decide (IntKind.i64.wrap (IntKind.i64.wrap (IntKind.i64.wrap ((0 : Int) + 1) + 1) + 1) < 3), false)] [0, 1, 2, 1, 3, 1, 4, 1, 5, 1, 6, 1, 7])) := by kernel_rfl
theorem dgp3 (m : Nat) (h : m < 100000) : Pl Tryd.prog 12 [.int .i64 (m : Int), .int .i64 3] (.string (widB 3 (m : Int))) := fun w => by
  have V : (sCat (sRune (IntKind.i32.wrap (IntKind.i64.wrap ((48 : Int) + (IntKind.i64.wrap ((IntKind.i64.wrap ((m : Int).tdiv 10)).tdiv 10)).tmod 10)))) (sCat (sRune (IntKind.i32.wrap (IntKind.i64.wrap ((48 : Int) + (IntKind.i64.wrap ((m : Int).tdiv 10)).tmod 10)))) (sCat (sRune (IntKind.i32.wrap (IntKind.i64.wrap ((48 : Int) + (m : Int).tmod 10)))) (⟨#[]⟩ : ByteArray)))) = widB 3 (m : Int) := by
    rw [dv m (by omega), dv (m / 10) (by omega), rn m (by omega), rn (m / 10) (by omega), rn (m / 10 / 10) (by omega)]
    refine ba_eq ?_
    rw [show ((3 : Int)) = ((3 : Nat) : Int) from rfl, widB_L]
    simp only [cat_L, wid, List.nil_append, List.append_assoc, List.append_nil]
  have hl0 : sLen (⟨#[]⟩ : ByteArray) = 0 := rfl
  have hl1 : ∀ b : UInt8, sLen (⟨#[b]⟩ : ByteArray) = 1 := fun b => rfl
  rw [← V]
  refine evR_calls (I := noFacts) (v := .string _) (ctxOf_ok (lib1_nil _ _) (eq_none _)) (by kernel_rfl) Tryd.func12 rfl lps_nil (dg3_1110 (m : Int)) rfl (all2_R (.cons rfl (.cons rfl .nil))) rfl w (Nat.zero_le _) (pickL_ok ?_ _)
  repeat' (first | exact cd_nil | refine cd_cons ?_ ?_)
  all_goals first | rfl | decide | (simp only [dv m (by omega), dv (m / 10) (by omega), dv (m / 10 / 10) (by omega), rn m (by omega), rn (m / 10) (by omega), rn (m / 10 / 10) (by omega), rn (m / 10 / 10 / 10) (by omega), len_cat, hl1, hl0]; decide)
set_option maxRecDepth 100000 in
theorem dg4_11110 (x : Int) : evR (ctxOf Tryd.prog noFacts (fun _ => false) []) Tryd.f12 [(.w (.one (.int .i64 x))), (.w (.one (.int .i64 4)))] [true, true, true, true, false] = some (AV.w (AW.one (AC.lit (Value.string (sCat (sRune (IntKind.i32.wrap (IntKind.i64.wrap ((48 : Int) + (IntKind.i64.wrap ((IntKind.i64.wrap ((IntKind.i64.wrap (x.tdiv 10)).tdiv 10)).tdiv 10)).tmod 10)))) (sCat (sRune (IntKind.i32.wrap (IntKind.i64.wrap ((48 : Int) + (IntKind.i64.wrap ((IntKind.i64.wrap (x.tdiv 10)).tdiv 10)).tmod 10)))) (sCat (sRune (IntKind.i32.wrap (IntKind.i64.wrap ((48 : Int) + (IntKind.i64.wrap (x.tdiv 10)).tmod 10)))) (sCat (sRune (IntKind.i32.wrap (IntKind.i64.wrap ((48 : Int) + x.tmod 10)))) (⟨#[]⟩ : ByteArray)))))))), (pickL [(decide ((0 : Int) < 4), true), (decide ((10 : Int) = 0), false), (decide (sLen (sRune (IntKind.i32.wrap (IntKind.i64.wrap ((48 : Int) + x.tmod 10)))) + sLen (⟨#[]⟩ : ByteArray) ≤ 9223372036854775807), true), (decide (IntKind.i64.wrap ((0 : Int) + 1) < 4), true), (decide (sLen (sRune (IntKind.i32.wrap (IntKind.i64.wrap ((48 : Int) + (IntKind.i64.wrap (x.tdiv 10)).tmod 10)))) + sLen (sCat (sRune (IntKind.i32.wrap (IntKind.i64.wrap ((48 : Int) + x.tmod 10)))) (⟨#[]⟩ : ByteArray)) ≤ 9223372036854775807), true), (decide (IntKind.i64.wrap (IntKind.i64.wrap ((0 : Int) + 1) + 1) < 4), true), (decide (sLen (sRune (IntKind.i32.wrap (IntKind.i64.wrap ((48 : Int) + (IntKind.i64.wrap ((IntKind.i64.wrap (x.tdiv 10)).tdiv 10)).tmod 10)))) + sLen (sCat (sRune (IntKind.i32.wrap (IntKind.i64.wrap ((48 : Int) + (IntKind.i64.wrap (x.tdiv 10)).tmod 10)))) (sCat (sRune (IntKind.i32.wrap (IntKind.i64.wrap ((48 : Int) + x.tmod 10)))) (⟨#[]⟩ : ByteArray))) ≤ 9223372036854775807), true), (decide (IntKind.i64.wrap (IntKind.i64.wrap (IntKind.i64.wrap ((0 : Int) + 1) + 1) + 1) < 4), true), (decide (sLen (sRune (IntKind.i32.wrap (IntKind.i64.wrap ((48 : Int) + (IntKind.i64.wrap ((IntKind.i64.wrap ((IntKind.i64.wrap (x.tdiv 10)).tdiv 10)).tdiv 10)).tmod 10)))) + sLen (sCat (sRune (IntKind.i32.wrap (IntKind.i64.wrap ((48 : Int) + (IntKind.i64.wrap ((IntKind.i64.wrap (x.tdiv 10)).tdiv 10)).tmod 10)))) (sCat (sRune (IntKind.i32.wrap (IntKind.i64.wrap ((48 : Int) + (IntKind.i64.wrap (x.tdiv 10)).tmod 10)))) (sCat (sRune (IntKind.i32.wrap (IntKind.i64.wrap ((48 : Int) + x.tmod 10)))) (⟨#[]⟩ : ByteArray)))) ≤ 9223372036854775807), true), (decide (IntKind.i64.wrap (IntKind.i64.wrap (IntKind.i64.wrap (IntKind.i64.wrap ((0 : Int) + 1) + 1) + 1) + 1) < 4), false)] [0, 1, 2, 1, 3, 1, 4, 1, 5, 1, 6, 1, 7, 1, 8, 1, 9])) := by kernel_rfl
theorem dgp4 (m : Nat) (h : m < 100000) : Pl Tryd.prog 12 [.int .i64 (m : Int), .int .i64 4] (.string (widB 4 (m : Int))) := fun w => by
  have V : (sCat (sRune (IntKind.i32.wrap (IntKind.i64.wrap ((48 : Int) + (IntKind.i64.wrap ((IntKind.i64.wrap ((IntKind.i64.wrap ((m : Int).tdiv 10)).tdiv 10)).tdiv 10)).tmod 10)))) (sCat (sRune (IntKind.i32.wrap (IntKind.i64.wrap ((48 : Int) + (IntKind.i64.wrap ((IntKind.i64.wrap ((m : Int).tdiv 10)).tdiv 10)).tmod 10)))) (sCat (sRune (IntKind.i32.wrap (IntKind.i64.wrap ((48 : Int) + (IntKind.i64.wrap ((m : Int).tdiv 10)).tmod 10)))) (sCat (sRune (IntKind.i32.wrap (IntKind.i64.wrap ((48 : Int) + (m : Int).tmod 10)))) (⟨#[]⟩ : ByteArray))))) = widB 4 (m : Int) := by
    rw [dv m (by omega), dv (m / 10) (by omega), dv (m / 10 / 10) (by omega), rn m (by omega), rn (m / 10) (by omega), rn (m / 10 / 10) (by omega), rn (m / 10 / 10 / 10) (by omega)]
    refine ba_eq ?_
    rw [show ((4 : Int)) = ((4 : Nat) : Int) from rfl, widB_L]
    simp only [cat_L, wid, List.nil_append, List.append_assoc, List.append_nil]
  have hl0 : sLen (⟨#[]⟩ : ByteArray) = 0 := rfl
  have hl1 : ∀ b : UInt8, sLen (⟨#[b]⟩ : ByteArray) = 1 := fun b => rfl
  rw [← V]
  refine evR_calls (I := noFacts) (v := .string _) (ctxOf_ok (lib1_nil _ _) (eq_none _)) (by kernel_rfl) Tryd.func12 rfl lps_nil (dg4_11110 (m : Int)) rfl (all2_R (.cons rfl (.cons rfl .nil))) rfl w (Nat.zero_le _) (pickL_ok ?_ _)
  repeat' (first | exact cd_nil | refine cd_cons ?_ ?_)
  all_goals first | rfl | decide | (simp only [dv m (by omega), dv (m / 10) (by omega), dv (m / 10 / 10) (by omega), rn m (by omega), rn (m / 10) (by omega), rn (m / 10 / 10) (by omega), rn (m / 10 / 10 / 10) (by omega), len_cat, hl1, hl0]; decide)
theorem dg_pl (n k : Int) (h0 : 0 ≤ n) (h2 : 2 ≤ k) (h4 : k ≤ 4) (h : n < (10 : Int) ^ k.toNat) : Pl Tryd.prog 12 [.int .i64 n, .int .i64 k] (.string (widB k n)) := by
  obtain ⟨m, rfl⟩ := Int.eq_ofNat_of_zero_le h0
  have hm : m < 100000 := by
    have p2 : (10 : Int) ^ Int.toNat 2 = 100 := rfl
    have p3 : (10 : Int) ^ Int.toNat 3 = 1000 := rfl
    have p4 : (10 : Int) ^ Int.toNat 4 = 10000 := rfl
    rcases (by omega : k = 2 ∨ k = 3 ∨ k = 4) with rfl | rfl | rfl <;> omega
  rcases (by omega : k = 2 ∨ k = 3 ∨ k = 4) with rfl | rfl | rfl
  · exact dgp2 m hm
  · exact dgp3 m hm
  · exact dgp4 m hm
theorem c4p {a b c d : Bool} (h : ∀ p ∈ [(a, true), (b, true), (c, true), (d, true)], p.1 = p.2) : a = true ∧ b = true ∧ c = true ∧ d = true := ⟨h (a, true) (by simp), h (b, true) (by simp), h (c, true) (by simp), h (d, true) (by simp)⟩
theorem padS_ok (B : Nat) : (padS : FnSp Empty).ok Tryd.prog (sqI B) 10 := sp2q_ok fun n k hc => ⟨_, rfl, by
  obtain ⟨h1, h2, h3, h4⟩ := c4p hc
  exact pad_pl B n k (of_decide_eq_true h1) (of_decide_eq_true h2) (of_decide_eq_true h3) (of_decide_eq_true h4)⟩
theorem dgS_ok (I : Interp F) : (padS : FnSp F).ok Tryd.prog I 12 := sp2_ok fun n k hc => ⟨_, rfl, by
  obtain ⟨h1, h2, h3, h4⟩ := c4p hc
  exact dg_pl n k (of_decide_eq_true h1) (of_decide_eq_true h2) (of_decide_eq_true h3) (of_decide_eq_true h4)⟩
noncomputable abbrev libP2 : List (Nat × FnSp Empty) := [(9, civS), (10, padS)]
noncomputable abbrev libP3 : List (Nat × FnSp Empty) := [(11, civS), (12, padS)]
theorem libP2_ok (B : Nat) : LibOk Tryd.prog (sqI B) (lib1 libP2) := (lib1_cons (sp1_ok fun c _ => ⟨_, rfl, ckf_pl c⟩) Tryd.call9 (lib1_cons (padS_ok B) Tryd.call10 (lib1_nil _ _)))
theorem libP3_ok : LibOk Tryd.prog noFacts (lib1 libP3) := (lib1_cons (sp1_ok fun c _ => ⟨_, rfl, cef_pl c⟩) Tryd.call11 (lib1_cons (dgS_ok _) Tryd.call12 (lib1_nil _ _)))
/-- The text of a civil time. -/
def chn (c : Cv) : ByteArray := sCat (sCat (sCat (sCat (sCat (sCat (sCat (sCat (sCat (sCat (sCat (sCat (widB 4 c.y) (⟨#[45]⟩ : ByteArray)) (widB 2 c.m)) (⟨#[45]⟩ : ByteArray)) (widB 2 c.d)) (⟨#[84]⟩ : ByteArray)) (widB 2 c.H)) (⟨#[58]⟩ : ByteArray)) (widB 2 c.M)) (⟨#[58]⟩ : ByteArray)) (widB 2 c.S)) (⟨#[46]⟩ : ByteArray)) (widB 3 c.ms)
def txV (c : Cv) : ByteArray := if cvE c = 0 then chn c else ⟨#[]⟩
set_option maxRecDepth 100000 in
theorem txf_1 (B : Nat) (c : Cv) : evR (ctxOf Tryd.prog (sqI B) (fun _ => false) libP2) Tryd.f4 [(cvA c)] [true] = some (AV.tup [AW.one (AC.lit (Value.string (⟨#[]⟩ : ByteArray))), AW.one (AC.int IntKind.i64 (cvE c))], (pickL [(cvE c != 0, true)] [0])) := by kernel_rfl
set_option maxRecDepth 100000 in
theorem txf_0 (B : Nat) (c : Cv) : evR (ctxOf Tryd.prog (sqI B) (fun _ => false) libP2) Tryd.f4 [(cvA c)] [false] = some (AV.tup [AW.one (AC.lit (Value.string (sCat (sCat (sCat (sCat (sCat (sCat (widB 4 c.y) (⟨#[45]⟩ : ByteArray)) (widB 2 c.m)) (⟨#[45]⟩ : ByteArray)) (widB 2 c.d)) (⟨#[84]⟩ : ByteArray)) (sCat (sCat (sCat (sCat (sCat (sCat (widB 2 c.H) (⟨#[58]⟩ : ByteArray)) (widB 2 c.M)) (⟨#[58]⟩ : ByteArray)) (widB 2 c.S)) (⟨#[46]⟩ : ByteArray)) (widB 3 c.ms))))), AW.one (AC.int IntKind.i64 0)], (pickL [(cvE c != 0, false), (decide ((0 : Int) ≤ c.y), true), (decide ((2 : Int) ≤ 4), true), (decide ((4 : Int) ≤ 4), true), (decide (c.y < 10 ^ Int.toNat 4), true), (decide (sLen (widB 4 c.y) + sLen (⟨#[45]⟩ : ByteArray) ≤ 9223372036854775807), true), (decide ((0 : Int) ≤ c.m), true), (decide ((2 : Int) ≤ 2), true), (decide (c.m < 10 ^ Int.toNat 2), true), (decide (sLen (sCat (widB 4 c.y) (⟨#[45]⟩ : ByteArray)) + sLen (widB 2 c.m) ≤ 9223372036854775807), true), (decide (sLen (sCat (sCat (widB 4 c.y) (⟨#[45]⟩ : ByteArray)) (widB 2 c.m)) + sLen (⟨#[45]⟩ : ByteArray) ≤ 9223372036854775807), true), (decide ((0 : Int) ≤ c.d), true), (decide (c.d < 10 ^ Int.toNat 2), true), (decide (sLen (sCat (sCat (sCat (widB 4 c.y) (⟨#[45]⟩ : ByteArray)) (widB 2 c.m)) (⟨#[45]⟩ : ByteArray)) + sLen (widB 2 c.d) ≤ 9223372036854775807), true), (decide ((0 : Int) ≤ c.H), true), (decide (c.H < 10 ^ Int.toNat 2), true), (decide (sLen (widB 2 c.H) + sLen (⟨#[58]⟩ : ByteArray) ≤ 9223372036854775807), true), (decide ((0 : Int) ≤ c.M), true), (decide (c.M < 10 ^ Int.toNat 2), true), (decide (sLen (sCat (widB 2 c.H) (⟨#[58]⟩ : ByteArray)) + sLen (widB 2 c.M) ≤ 9223372036854775807), true), (decide (sLen (sCat (sCat (widB 2 c.H) (⟨#[58]⟩ : ByteArray)) (widB 2 c.M)) + sLen (⟨#[58]⟩ : ByteArray) ≤ 9223372036854775807), true), (decide ((0 : Int) ≤ c.S), true), (decide (c.S < 10 ^ Int.toNat 2), true), (decide (sLen (sCat (sCat (sCat (widB 2 c.H) (⟨#[58]⟩ : ByteArray)) (widB 2 c.M)) (⟨#[58]⟩ : ByteArray)) + sLen (widB 2 c.S) ≤ 9223372036854775807), true), (decide (sLen (sCat (sCat (sCat (sCat (widB 2 c.H) (⟨#[58]⟩ : ByteArray)) (widB 2 c.M)) (⟨#[58]⟩ : ByteArray)) (widB 2 c.S)) + sLen (⟨#[46]⟩ : ByteArray) ≤ 9223372036854775807), true), (decide ((0 : Int) ≤ c.ms), true), (decide ((2 : Int) ≤ 3), true), (decide ((3 : Int) ≤ 4), true), (decide (c.ms < 10 ^ Int.toNat 3), true), (decide (sLen (sCat (sCat (sCat (sCat (sCat (widB 2 c.H) (⟨#[58]⟩ : ByteArray)) (widB 2 c.M)) (⟨#[58]⟩ : ByteArray)) (widB 2 c.S)) (⟨#[46]⟩ : ByteArray)) + sLen (widB 3 c.ms) ≤ 9223372036854775807), true), (decide (sLen (sCat (sCat (sCat (sCat (widB 4 c.y) (⟨#[45]⟩ : ByteArray)) (widB 2 c.m)) (⟨#[45]⟩ : ByteArray)) (widB 2 c.d)) + sLen (⟨#[84]⟩ : ByteArray) ≤ 9223372036854775807), true), (decide (sLen (sCat (sCat (sCat (sCat (sCat (widB 4 c.y) (⟨#[45]⟩ : ByteArray)) (widB 2 c.m)) (⟨#[45]⟩ : ByteArray)) (widB 2 c.d)) (⟨#[84]⟩ : ByteArray)) + sLen (sCat (sCat (sCat (sCat (sCat (sCat (widB 2 c.H) (⟨#[58]⟩ : ByteArray)) (widB 2 c.M)) (⟨#[58]⟩ : ByteArray)) (widB 2 c.S)) (⟨#[46]⟩ : ByteArray)) (widB 3 c.ms)) ≤ 9223372036854775807), true)] [0, 1, 2, 3, 4, 5, 6, 7, 2, 8, 9, 10, 11, 7, 2, 12, 13, 14, 7, 2, 15, 16, 17, 7, 2, 18, 19, 20, 21, 7, 2, 22, 23, 24, 25, 26, 27, 28, 29, 30, 31])) := by kernel_rfl
theorem tx_pl (B : Nat) (c : Cv) : PlI (sqI B).bs Tryd.prog 4 [cvV c] (.tuple #[.string (txV c), .int .i64 (cvE c)]) := fun w hw => by
  by_cases hE : cvE c = 0
  · have V : (sCat (sCat (sCat (sCat (sCat (sCat (widB 4 c.y) (⟨#[45]⟩ : ByteArray)) (widB 2 c.m)) (⟨#[45]⟩ : ByteArray)) (widB 2 c.d)) (⟨#[84]⟩ : ByteArray)) (sCat (sCat (sCat (sCat (sCat (sCat (widB 2 c.H) (⟨#[58]⟩ : ByteArray)) (widB 2 c.M)) (⟨#[58]⟩ : ByteArray)) (widB 2 c.S)) (⟨#[46]⟩ : ByteArray)) (widB 3 c.ms))) = txV c := by
      unfold txV chn
      rw [if_pos hE]
      try simp only [sCat, ByteArray.append_assoc]
    have hb : (cvE c != 0) = false := by simp [hE]
    have hB : cvB c = true := by
      unfold cvE at hE
      split at hE
      · assumption
      · cases hE
    unfold cvB at hB
    simp only [Bool.and_eq_true, upB, decide_eq_true_eq] at hB
    obtain ⟨⟨⟨⟨hd, hH0, hH1⟩, hM0, hM1⟩, hS0, hS1⟩, hm0, hm1⟩ := hB
    have hd := okD_iff.1 hd
    have hS2 : c.S ≤ 60 := by split at hS1 <;> omega
    have hml := ml_in c.y c.m
    have p2 : (10 : Int) ^ Int.toNat 2 = 100 := rfl
    have p3 : (10 : Int) ^ Int.toNat 3 = 1000 := rfl
    have p4 : (10 : Int) ^ Int.toNat 4 = 10000 := rfl
    have q2 : ((Int.toNat 2 : Nat) : Int) = 2 := rfl
    have q3 : ((Int.toNat 3 : Nat) : Int) = 3 := rfl
    have q4 : ((Int.toNat 4 : Nat) : Int) = 4 := rfl
    have hl1 : ∀ b : UInt8, sLen (⟨#[b]⟩ : ByteArray) = 1 := fun b => rfl
    rw [← V, hE]
    refine evR_calls (I := sqI B) (v := .tuple _) (ctxOf_ok (libP2_ok B) (eq_none _)) (by kernel_rfl) Tryd.func4 rfl lps_nil (txf_0 B c) rfl (all2_R (.cons rfl .nil)) rfl w hw.1 (pickL_ok ?_ _) hw.2
    repeat' (first | exact cd_nil | refine cd_cons ?_ ?_)
    all_goals first | with_reducible exact hb | exact decide_eq_true (by omega) | (rw [p4]; exact decide_eq_true (by omega)) | (rw [p2]; exact decide_eq_true (by omega)) | (rw [p3]; exact decide_eq_true (by omega)) | (simp only [len_cat, len_wid, hl1, q2, q3, q4]; exact decide_eq_true (by omega)) | with_reducible rfl
  · have hb : (cvE c != 0) = true := by simp [hE]
    have V : (⟨#[]⟩ : ByteArray) = txV c := (if_neg hE).symm
    rw [← V]
    refine evR_calls (I := sqI B) (v := .tuple _) (ctxOf_ok (libP2_ok B) (eq_none _)) (by kernel_rfl) Tryd.func4 rfl lps_nil (txf_1 B c) rfl (all2_R (.cons rfl .nil)) rfl w hw.1 (pickL_ok ?_ _) hw.2
    repeat' (first | exact cd_nil | refine cd_cons ?_ ?_)
    all_goals first | exact hb | rfl
set_option maxRecDepth 100000 in
theorem ctf_1 (c : Cv) : evR (ctxOf Tryd.prog noFacts (fun _ => false) libP3) Tryd.f5 [(cvA c)] [true] = some (AV.tup [AW.one (AC.lit (Value.string (⟨#[]⟩ : ByteArray))), AW.one (AC.int IntKind.i64 (cvE c))], (pickL [(cvE c != 0, true)] [0])) := by kernel_rfl
set_option maxRecDepth 100000 in
theorem ctf_0 (c : Cv) : evR (ctxOf Tryd.prog noFacts (fun _ => false) libP3) Tryd.f5 [(cvA c)] [false] = some (AV.tup [AW.one (AC.lit (Value.string (sCat (sCat (sCat (sCat (sCat (sCat (sCat (sCat (sCat (sCat (sCat (sCat (widB 4 c.y) (⟨#[45]⟩ : ByteArray)) (widB 2 c.m)) (⟨#[45]⟩ : ByteArray)) (widB 2 c.d)) (⟨#[84]⟩ : ByteArray)) (widB 2 c.H)) (⟨#[58]⟩ : ByteArray)) (widB 2 c.M)) (⟨#[58]⟩ : ByteArray)) (widB 2 c.S)) (⟨#[46]⟩ : ByteArray)) (widB 3 c.ms)))), AW.one (AC.int IntKind.i64 0)], (pickL [(cvE c != 0, false), (decide ((0 : Int) ≤ c.y), true), (decide ((2 : Int) ≤ 4), true), (decide ((4 : Int) ≤ 4), true), (decide (c.y < 10 ^ Int.toNat 4), true), (decide (sLen (widB 4 c.y) + sLen (⟨#[45]⟩ : ByteArray) ≤ 9223372036854775807), true), (decide ((0 : Int) ≤ c.m), true), (decide ((2 : Int) ≤ 2), true), (decide (c.m < 10 ^ Int.toNat 2), true), (decide (sLen (sCat (widB 4 c.y) (⟨#[45]⟩ : ByteArray)) + sLen (widB 2 c.m) ≤ 9223372036854775807), true), (decide (sLen (sCat (sCat (widB 4 c.y) (⟨#[45]⟩ : ByteArray)) (widB 2 c.m)) + sLen (⟨#[45]⟩ : ByteArray) ≤ 9223372036854775807), true), (decide ((0 : Int) ≤ c.d), true), (decide (c.d < 10 ^ Int.toNat 2), true), (decide (sLen (sCat (sCat (sCat (widB 4 c.y) (⟨#[45]⟩ : ByteArray)) (widB 2 c.m)) (⟨#[45]⟩ : ByteArray)) + sLen (widB 2 c.d) ≤ 9223372036854775807), true), (decide (sLen (sCat (sCat (sCat (sCat (widB 4 c.y) (⟨#[45]⟩ : ByteArray)) (widB 2 c.m)) (⟨#[45]⟩ : ByteArray)) (widB 2 c.d)) + sLen (⟨#[84]⟩ : ByteArray) ≤ 9223372036854775807), true), (decide ((0 : Int) ≤ c.H), true), (decide (c.H < 10 ^ Int.toNat 2), true), (decide (sLen (sCat (sCat (sCat (sCat (sCat (widB 4 c.y) (⟨#[45]⟩ : ByteArray)) (widB 2 c.m)) (⟨#[45]⟩ : ByteArray)) (widB 2 c.d)) (⟨#[84]⟩ : ByteArray)) + sLen (widB 2 c.H) ≤ 9223372036854775807), true), (decide (sLen (sCat (sCat (sCat (sCat (sCat (sCat (widB 4 c.y) (⟨#[45]⟩ : ByteArray)) (widB 2 c.m)) (⟨#[45]⟩ : ByteArray)) (widB 2 c.d)) (⟨#[84]⟩ : ByteArray)) (widB 2 c.H)) + sLen (⟨#[58]⟩ : ByteArray) ≤ 9223372036854775807), true), (decide ((0 : Int) ≤ c.M), true), (decide (c.M < 10 ^ Int.toNat 2), true), (decide (sLen (sCat (sCat (sCat (sCat (sCat (sCat (sCat (widB 4 c.y) (⟨#[45]⟩ : ByteArray)) (widB 2 c.m)) (⟨#[45]⟩ : ByteArray)) (widB 2 c.d)) (⟨#[84]⟩ : ByteArray)) (widB 2 c.H)) (⟨#[58]⟩ : ByteArray)) + sLen (widB 2 c.M) ≤ 9223372036854775807), true), (decide (sLen (sCat (sCat (sCat (sCat (sCat (sCat (sCat (sCat (widB 4 c.y) (⟨#[45]⟩ : ByteArray)) (widB 2 c.m)) (⟨#[45]⟩ : ByteArray)) (widB 2 c.d)) (⟨#[84]⟩ : ByteArray)) (widB 2 c.H)) (⟨#[58]⟩ : ByteArray)) (widB 2 c.M)) + sLen (⟨#[58]⟩ : ByteArray) ≤ 9223372036854775807), true), (decide ((0 : Int) ≤ c.S), true), (decide (c.S < 10 ^ Int.toNat 2), true), (decide (sLen (sCat (sCat (sCat (sCat (sCat (sCat (sCat (sCat (sCat (widB 4 c.y) (⟨#[45]⟩ : ByteArray)) (widB 2 c.m)) (⟨#[45]⟩ : ByteArray)) (widB 2 c.d)) (⟨#[84]⟩ : ByteArray)) (widB 2 c.H)) (⟨#[58]⟩ : ByteArray)) (widB 2 c.M)) (⟨#[58]⟩ : ByteArray)) + sLen (widB 2 c.S) ≤ 9223372036854775807), true), (decide (sLen (sCat (sCat (sCat (sCat (sCat (sCat (sCat (sCat (sCat (sCat (widB 4 c.y) (⟨#[45]⟩ : ByteArray)) (widB 2 c.m)) (⟨#[45]⟩ : ByteArray)) (widB 2 c.d)) (⟨#[84]⟩ : ByteArray)) (widB 2 c.H)) (⟨#[58]⟩ : ByteArray)) (widB 2 c.M)) (⟨#[58]⟩ : ByteArray)) (widB 2 c.S)) + sLen (⟨#[46]⟩ : ByteArray) ≤ 9223372036854775807), true), (decide ((0 : Int) ≤ c.ms), true), (decide ((2 : Int) ≤ 3), true), (decide ((3 : Int) ≤ 4), true), (decide (c.ms < 10 ^ Int.toNat 3), true), (decide (sLen (sCat (sCat (sCat (sCat (sCat (sCat (sCat (sCat (sCat (sCat (sCat (widB 4 c.y) (⟨#[45]⟩ : ByteArray)) (widB 2 c.m)) (⟨#[45]⟩ : ByteArray)) (widB 2 c.d)) (⟨#[84]⟩ : ByteArray)) (widB 2 c.H)) (⟨#[58]⟩ : ByteArray)) (widB 2 c.M)) (⟨#[58]⟩ : ByteArray)) (widB 2 c.S)) (⟨#[46]⟩ : ByteArray)) + sLen (widB 3 c.ms) ≤ 9223372036854775807), true)] [0, 1, 2, 3, 4, 5, 6, 7, 2, 8, 9, 10, 11, 7, 2, 12, 13, 14, 15, 7, 2, 16, 17, 18, 19, 7, 2, 20, 21, 22, 23, 7, 2, 24, 25, 26, 27, 28, 29, 30, 31])) := by kernel_rfl
theorem ct_pl (c : Cv) : Pl Tryd.prog 5 [cvV c] (.tuple #[.string (txV c), .int .i64 (cvE c)]) := fun w => by
  by_cases hE : cvE c = 0
  · have V : (sCat (sCat (sCat (sCat (sCat (sCat (sCat (sCat (sCat (sCat (sCat (sCat (widB 4 c.y) (⟨#[45]⟩ : ByteArray)) (widB 2 c.m)) (⟨#[45]⟩ : ByteArray)) (widB 2 c.d)) (⟨#[84]⟩ : ByteArray)) (widB 2 c.H)) (⟨#[58]⟩ : ByteArray)) (widB 2 c.M)) (⟨#[58]⟩ : ByteArray)) (widB 2 c.S)) (⟨#[46]⟩ : ByteArray)) (widB 3 c.ms)) = txV c := by
      unfold txV chn
      rw [if_pos hE]
      try simp only [sCat, ByteArray.append_assoc]
    have hb : (cvE c != 0) = false := by simp [hE]
    have hB : cvB c = true := by
      unfold cvE at hE
      split at hE
      · assumption
      · cases hE
    unfold cvB at hB
    simp only [Bool.and_eq_true, upB, decide_eq_true_eq] at hB
    obtain ⟨⟨⟨⟨hd, hH0, hH1⟩, hM0, hM1⟩, hS0, hS1⟩, hm0, hm1⟩ := hB
    have hd := okD_iff.1 hd
    have hS2 : c.S ≤ 60 := by split at hS1 <;> omega
    have hml := ml_in c.y c.m
    have p2 : (10 : Int) ^ Int.toNat 2 = 100 := rfl
    have p3 : (10 : Int) ^ Int.toNat 3 = 1000 := rfl
    have p4 : (10 : Int) ^ Int.toNat 4 = 10000 := rfl
    have q2 : ((Int.toNat 2 : Nat) : Int) = 2 := rfl
    have q3 : ((Int.toNat 3 : Nat) : Int) = 3 := rfl
    have q4 : ((Int.toNat 4 : Nat) : Int) = 4 := rfl
    have hl1 : ∀ b : UInt8, sLen (⟨#[b]⟩ : ByteArray) = 1 := fun b => rfl
    rw [← V, hE]
    refine evR_calls (I := noFacts) (v := .tuple _) (ctxOf_ok libP3_ok (eq_none _)) (by kernel_rfl) Tryd.func5 rfl lps_nil (ctf_0 c) rfl (all2_R (.cons rfl .nil)) rfl w (Nat.zero_le _) (pickL_ok ?_ _)
    repeat' (first | exact cd_nil | refine cd_cons ?_ ?_)
    all_goals first | with_reducible exact hb | exact decide_eq_true (by omega) | (rw [p4]; exact decide_eq_true (by omega)) | (rw [p2]; exact decide_eq_true (by omega)) | (rw [p3]; exact decide_eq_true (by omega)) | (simp only [len_cat, len_wid, hl1, q2, q3, q4]; exact decide_eq_true (by omega)) | with_reducible rfl
  · have hb : (cvE c != 0) = true := by simp [hE]
    have V : (⟨#[]⟩ : ByteArray) = txV c := (if_neg hE).symm
    rw [← V]
    refine evR_calls (I := noFacts) (v := .tuple _) (ctxOf_ok libP3_ok (eq_none _)) (by kernel_rfl) Tryd.func5 rfl lps_nil (ctf_1 c) rfl (all2_R (.cons rfl .nil)) rfl w (Nat.zero_le _) (pickL_ok ?_ _)
    repeat' (first | exact cd_nil | refine cd_cons ?_ ?_)
    all_goals first | exact hb | rfl
end
end Go.Proofs.YtokkaeaciigapaaDoor.AtSx

