/-
  Package frac: Read as a function.
  Conditions: the text is a string of Go.
-/
import Derived.Test.YtocheeocnbfbiaaDoorNP
set_option linter.unusedVariables false
set_option linter.unusedSimpArgs false
namespace Go.Proofs.YtocheeocnbfbiaaDoor.AtFt
open Ev Go.RowKit
open Go.Proofs.YtocheeocnbfbiaaDoor
variable {F : Type}
noncomputable section

abbrev sl_ : ByteArray := ⟨#[47]⟩
abbrev mi_ : ByteArray := ⟨#[45]⟩
/-- The parts of a text. -/
def rA (s : ByteArray) : ByteArray := cpA (cutA s sl_) mi_
def rM (s : ByteArray) : Bool := cpO (cutA s sl_) mi_
def rS (s : ByteArray) : Bool := decide (0 ≤ cutI s sl_)
def rB (s : ByteArray) : ByteArray := if rS s = true then cutC s sl_ else ⟨#[49]⟩
def rN (s : ByteArray) : Int := if rM s = true then -vaV (rA s) else vaV (rA s)
def rE (s : ByteArray) : Int :=
  if nuB (rA s) = true ∧ ¬ (rM s = true ∧ sEq (rA s) ⟨#[48]⟩ = true) then
    (if rS s = true → (nuB (cutC s sl_) = true ∧ ¬ sEq (cutC s sl_) ⟨#[48]⟩ = true) then
      (if 0 ≤ vaV (rA s) ∧ 0 ≤ vaV (rB s) then
        (if (rS s = true ∧ vaV (rB s) = 1) ∨ ¬ chkV (rN s) (vaV (rB s)) = 0 then 3 else 0)
      else 2)
    else 5)
  else 5
def rX (s : ByteArray) : Int := if rE s = 0 then rN s else 0
def rY (s : ByteArray) : Int := if rE s = 0 then vaV (rB s) else 0
noncomputable abbrev libF3 : List (Nat × FnSp Empty) := [(24, cuS), (25, cpS), (26, nmS), (27, vlS), (22, chS)]
theorem va2 {s : ByteArray} (hc : ∀ q ∈ [(decide (sLen s ≤ 9223372036854775807), true), (alD s, true)], q.1 = q.2) : sLen s ≤ 9223372036854775807 ∧ alD s = true := ⟨of_decide_eq_true (hc (decide (sLen s ≤ 9223372036854775807), true) (by simp)), hc (alD s, true) (by simp)⟩
theorem libF3_ok : LibOk Tryd.prog noFacts (lib1 libF3) := (lib1_cons (sp2_ok fun s p hc => ⟨_, rfl, cut_pl s p (cu2 hc).1 (cu2 hc).2⟩) Tryd.call24 (lib1_cons (cp_ok _) Tryd.call25 (lib1_cons (sp1_ok fun s hc => ⟨_, rfl, num_pl s (of_decide_eq_true (hc (decide (sLen s ≤ 9223372036854775807), true) (by simp)))⟩) Tryd.call26 (lib1_cons (sp1_ok fun s hc => ⟨_, rfl, val_pl s (va2 hc).1 (va2 hc).2⟩) Tryd.call27 (lib1_cons (ch_ok _) Tryd.call22 (lib1_nil _ _))))))
theorem cp_len (s p : ByteArray) : sLen (cpA s p) ≤ sLen s := by
  rw [len_L, len_L]
  unfold cpA Lib.trimPrefix
  simp only [List.toList_toArray]
  split
  · rw [List.length_drop]; omega
  · omega
theorem cutA_len (s p : ByteArray) : sLen (cutA s p) ≤ sLen s := by
  unfold cutA
  split
  · rename_i h
    obtain ⟨k, hk⟩ := Int.eq_ofNat_of_zero_le h
    rw [hk, show (0 : Int) = ((0 : Nat) : Int) from rfl, len_L, len_L, sub_L, List.length_take, List.length_drop]
    omega
  · omega
theorem cutC_len (s p : ByteArray) (h0 : 0 ≤ sLen s) : sLen (cutC s p) ≤ sLen s := by
  unfold cutC
  split
  · rename_i h
    obtain ⟨k, hk⟩ := Int.eq_ofNat_of_zero_le h
    obtain ⟨m, hm⟩ := Int.eq_ofNat_of_zero_le h0
    rw [hk, hm, show (k : Int) + 1 = ((k + 1 : Nat) : Int) by omega, len_L, sub_L, List.length_take, List.length_drop]
    rw [len_L] at hm
    omega
  · rw [len_L]; exact h0
theorem nu_al {s : ByteArray} (h : nuB s = true) : alD s = true := by
  unfold nuB at h
  simp only [Bool.and_eq_true] at h
  exact h.2.2
theorem va_le (s : ByteArray) : vaV s ≤ 1152921504606846976 := vF_le s s.size 0 0 (by omega)
theorem va_one : vaV ⟨#[49]⟩ = 1 := by decide +kernel
set_option maxRecDepth 100000 in
theorem rdf_1 (s : ByteArray) : evR (ctxOf Tryd.prog noFacts (fun _ => false) libF3) Tryd.f8 [(.w (.one (.lit (.string s))))] [true] = some (AV.tup [AW.agg [AC.int IntKind.i64 0, AC.int IntKind.i64 0], AW.one (AC.int IntKind.i64 5)], (pickL [(decide (sLen (⟨#[47]⟩ : ByteArray) = 1), true), (decide (sLen s ≤ 9223372036854775807), true), (decide (sLen (rA s) ≤ 9223372036854775807), true), (!nuB (rA s), true), (true, true)] [0, 1, 2, 3, 3, 3, 3, 4])) := by kernel_rfl
set_option maxRecDepth 100000 in
theorem rdf_011 (s : ByteArray) : evR (ctxOf Tryd.prog noFacts (fun _ => false) libF3) Tryd.f8 [(.w (.one (.lit (.string s))))] [false, true, true] = some (AV.tup [AW.agg [AC.int IntKind.i64 0, AC.int IntKind.i64 0], AW.one (AC.int IntKind.i64 5)], (pickL [(decide (sLen (⟨#[47]⟩ : ByteArray) = 1), true), (decide (sLen s ≤ 9223372036854775807), true), (decide (sLen (rA s) ≤ 9223372036854775807), true), (!nuB (rA s), false), (rM s, true), (sEq (rA s) (⟨#[48]⟩ : ByteArray), true)] [0, 1, 2, 3, 3, 4, 4, 3, 4, 3, 5])) := by kernel_rfl
set_option maxRecDepth 100000 in
theorem rdf_01011 (s : ByteArray) : evR (ctxOf Tryd.prog noFacts (fun _ => false) libF3) Tryd.f8 [(.w (.one (.lit (.string s))))] [false, true, false, true, true] = some (AV.tup [AW.agg [AC.int IntKind.i64 0, AC.int IntKind.i64 0], AW.one (AC.int IntKind.i64 2)], (pickL [(decide (sLen (⟨#[47]⟩ : ByteArray) = 1), true), (decide (sLen s ≤ 9223372036854775807), true), (decide (sLen (rA s) ≤ 9223372036854775807), true), (!nuB (rA s), false), (rM s, true), (sEq (rA s) (⟨#[48]⟩ : ByteArray), false), (!decide ((0 : Int) ≤ cutI s sl_), true), (alD (rA s), true), (decide (sLen (⟨#[49]⟩ : ByteArray) ≤ 9223372036854775807), true), (alD (⟨#[49]⟩ : ByteArray), true), (!decide ((0 : Int) ≤ vaV (rA s)), true), (true, true)] [0, 1, 2, 3, 3, 4, 4, 3, 4, 3, 5, 6, 2, 7, 8, 9, 10, 10, 10, 11])) := by kernel_rfl
set_option maxRecDepth 100000 in
theorem rdf_010100101 (s : ByteArray) : evR (ctxOf Tryd.prog noFacts (fun _ => false) libF3) Tryd.f8 [(.w (.one (.lit (.string s))))] [false, true, false, true, false, false, true, false, true] = some (AV.tup [AW.agg [AC.int IntKind.i64 0, AC.int IntKind.i64 0], AW.one (AC.int IntKind.i64 3)], (pickL [(decide (sLen (⟨#[47]⟩ : ByteArray) = 1), true), (decide (sLen s ≤ 9223372036854775807), true), (decide (sLen (rA s) ≤ 9223372036854775807), true), (!nuB (rA s), false), (rM s, true), (sEq (rA s) (⟨#[48]⟩ : ByteArray), false), (!decide ((0 : Int) ≤ cutI s sl_), true), (alD (rA s), true), (decide (sLen (⟨#[49]⟩ : ByteArray) ≤ 9223372036854775807), true), (alD (⟨#[49]⟩ : ByteArray), true), (!decide ((0 : Int) ≤ vaV (rA s)), false), (!decide ((0 : Int) ≤ vaV (⟨#[49]⟩ : ByteArray)), false), (decide ((0 : Int) ≤ cutI s sl_), false), (false, false), (i64R (IntKind.i64.wrap (0 - if 0 ≤ vaV (rA s) then vaV (rA s) else 0)), true), (i64R (if 0 ≤ vaV (⟨#[49]⟩ : ByteArray) then vaV (⟨#[49]⟩ : ByteArray) else 0), true), (chkV (IntKind.i64.wrap (0 - if 0 ≤ vaV (rA s) then vaV (rA s) else 0)) (if 0 ≤ vaV (⟨#[49]⟩ : ByteArray) then vaV (⟨#[49]⟩ : ByteArray) else 0) != 0, true)] [0, 1, 2, 3, 3, 4, 4, 3, 4, 3, 5, 6, 2, 7, 8, 9, 10, 10, 10, 11, 4, 12, 12, 12, 13, 13, 14, 15, 13, 13, 16])) := by kernel_rfl
set_option maxRecDepth 100000 in
theorem rdf_010100100 (s : ByteArray) : evR (ctxOf Tryd.prog noFacts (fun _ => false) libF3) Tryd.f8 [(.w (.one (.lit (.string s))))] [false, true, false, true, false, false, true, false, false] = some (AV.tup [AW.agg [AC.int IntKind.i64 (IntKind.i64.wrap (0 - if 0 ≤ vaV (rA s) then vaV (rA s) else 0)), AC.int IntKind.i64 (if 0 ≤ vaV (⟨#[49]⟩ : ByteArray) then vaV (⟨#[49]⟩ : ByteArray) else 0)], AW.one (AC.int IntKind.i64 0)], (pickL [(decide (sLen (⟨#[47]⟩ : ByteArray) = 1), true), (decide (sLen s ≤ 9223372036854775807), true), (decide (sLen (rA s) ≤ 9223372036854775807), true), (!nuB (rA s), false), (rM s, true), (sEq (rA s) (⟨#[48]⟩ : ByteArray), false), (!decide ((0 : Int) ≤ cutI s sl_), true), (alD (rA s), true), (decide (sLen (⟨#[49]⟩ : ByteArray) ≤ 9223372036854775807), true), (alD (⟨#[49]⟩ : ByteArray), true), (!decide ((0 : Int) ≤ vaV (rA s)), false), (!decide ((0 : Int) ≤ vaV (⟨#[49]⟩ : ByteArray)), false), (decide ((0 : Int) ≤ cutI s sl_), false), (false, false), (i64R (IntKind.i64.wrap (0 - if 0 ≤ vaV (rA s) then vaV (rA s) else 0)), true), (i64R (if 0 ≤ vaV (⟨#[49]⟩ : ByteArray) then vaV (⟨#[49]⟩ : ByteArray) else 0), true), (chkV (IntKind.i64.wrap (0 - if 0 ≤ vaV (rA s) then vaV (rA s) else 0)) (if 0 ≤ vaV (⟨#[49]⟩ : ByteArray) then vaV (⟨#[49]⟩ : ByteArray) else 0) != 0, false)] [0, 1, 2, 3, 3, 4, 4, 3, 4, 3, 5, 6, 2, 7, 8, 9, 10, 10, 10, 11, 4, 12, 12, 12, 13, 13, 14, 15, 13, 13, 16])) := by kernel_rfl
set_option maxRecDepth 100000 in
theorem rdf_01001 (s : ByteArray) : evR (ctxOf Tryd.prog noFacts (fun _ => false) libF3) Tryd.f8 [(.w (.one (.lit (.string s))))] [false, true, false, false, true] = some (AV.tup [AW.agg [AC.int IntKind.i64 0, AC.int IntKind.i64 0], AW.one (AC.int IntKind.i64 5)], (pickL [(decide (sLen (⟨#[47]⟩ : ByteArray) = 1), true), (decide (sLen s ≤ 9223372036854775807), true), (decide (sLen (rA s) ≤ 9223372036854775807), true), (!nuB (rA s), false), (rM s, true), (sEq (rA s) (⟨#[48]⟩ : ByteArray), false), (!decide ((0 : Int) ≤ cutI s sl_), false), (decide (sLen (cutC s sl_) ≤ 9223372036854775807), true), (!nuB (cutC s sl_), true), (true, true)] [0, 1, 2, 3, 3, 4, 4, 3, 4, 3, 5, 6, 7, 8, 8, 8, 9])) := by kernel_rfl
set_option maxRecDepth 100000 in
theorem rdf_010001 (s : ByteArray) : evR (ctxOf Tryd.prog noFacts (fun _ => false) libF3) Tryd.f8 [(.w (.one (.lit (.string s))))] [false, true, false, false, false, true] = some (AV.tup [AW.agg [AC.int IntKind.i64 0, AC.int IntKind.i64 0], AW.one (AC.int IntKind.i64 5)], (pickL [(decide (sLen (⟨#[47]⟩ : ByteArray) = 1), true), (decide (sLen s ≤ 9223372036854775807), true), (decide (sLen (rA s) ≤ 9223372036854775807), true), (!nuB (rA s), false), (rM s, true), (sEq (rA s) (⟨#[48]⟩ : ByteArray), false), (!decide ((0 : Int) ≤ cutI s sl_), false), (decide (sLen (cutC s sl_) ≤ 9223372036854775807), true), (!nuB (cutC s sl_), false), (sEq (cutC s sl_) (⟨#[48]⟩ : ByteArray), true)] [0, 1, 2, 3, 3, 4, 4, 3, 4, 3, 5, 6, 7, 8, 8, 8, 9])) := by kernel_rfl
set_option maxRecDepth 100000 in
theorem rdf_0100001 (s : ByteArray) : evR (ctxOf Tryd.prog noFacts (fun _ => false) libF3) Tryd.f8 [(.w (.one (.lit (.string s))))] [false, true, false, false, false, false, true] = some (AV.tup [AW.agg [AC.int IntKind.i64 0, AC.int IntKind.i64 0], AW.one (AC.int IntKind.i64 2)], (pickL [(decide (sLen (⟨#[47]⟩ : ByteArray) = 1), true), (decide (sLen s ≤ 9223372036854775807), true), (decide (sLen (rA s) ≤ 9223372036854775807), true), (!nuB (rA s), false), (rM s, true), (sEq (rA s) (⟨#[48]⟩ : ByteArray), false), (!decide ((0 : Int) ≤ cutI s sl_), false), (decide (sLen (cutC s sl_) ≤ 9223372036854775807), true), (!nuB (cutC s sl_), false), (sEq (cutC s sl_) (⟨#[48]⟩ : ByteArray), false), (alD (rA s), true), (alD (cutC s sl_), true), (!decide ((0 : Int) ≤ vaV (rA s)), true), (true, true)] [0, 1, 2, 3, 3, 4, 4, 3, 4, 3, 5, 6, 7, 8, 8, 8, 9, 2, 10, 7, 11, 12, 12, 12, 13])) := by kernel_rfl
set_option maxRecDepth 100000 in
theorem rdf_01000001 (s : ByteArray) : evR (ctxOf Tryd.prog noFacts (fun _ => false) libF3) Tryd.f8 [(.w (.one (.lit (.string s))))] [false, true, false, false, false, false, false, true] = some (AV.tup [AW.agg [AC.int IntKind.i64 0, AC.int IntKind.i64 0], AW.one (AC.int IntKind.i64 2)], (pickL [(decide (sLen (⟨#[47]⟩ : ByteArray) = 1), true), (decide (sLen s ≤ 9223372036854775807), true), (decide (sLen (rA s) ≤ 9223372036854775807), true), (!nuB (rA s), false), (rM s, true), (sEq (rA s) (⟨#[48]⟩ : ByteArray), false), (!decide ((0 : Int) ≤ cutI s sl_), false), (decide (sLen (cutC s sl_) ≤ 9223372036854775807), true), (!nuB (cutC s sl_), false), (sEq (cutC s sl_) (⟨#[48]⟩ : ByteArray), false), (alD (rA s), true), (alD (cutC s sl_), true), (!decide ((0 : Int) ≤ vaV (rA s)), false), (!decide ((0 : Int) ≤ vaV (cutC s sl_)), true)] [0, 1, 2, 3, 3, 4, 4, 3, 4, 3, 5, 6, 7, 8, 8, 8, 9, 2, 10, 7, 11, 12, 12, 12, 13])) := by kernel_rfl
set_option maxRecDepth 100000 in
theorem rdf_01000000111 (s : ByteArray) : evR (ctxOf Tryd.prog noFacts (fun _ => false) libF3) Tryd.f8 [(.w (.one (.lit (.string s))))] [false, true, false, false, false, false, false, false, true, true, true] = some (AV.tup [AW.agg [AC.int IntKind.i64 0, AC.int IntKind.i64 0], AW.one (AC.int IntKind.i64 3)], (pickL [(decide (sLen (⟨#[47]⟩ : ByteArray) = 1), true), (decide (sLen s ≤ 9223372036854775807), true), (decide (sLen (rA s) ≤ 9223372036854775807), true), (!nuB (rA s), false), (rM s, true), (sEq (rA s) (⟨#[48]⟩ : ByteArray), false), (!decide ((0 : Int) ≤ cutI s sl_), false), (decide (sLen (cutC s sl_) ≤ 9223372036854775807), true), (!nuB (cutC s sl_), false), (sEq (cutC s sl_) (⟨#[48]⟩ : ByteArray), false), (alD (rA s), true), (alD (cutC s sl_), true), (!decide ((0 : Int) ≤ vaV (rA s)), false), (!decide ((0 : Int) ≤ vaV (cutC s sl_)), false), (decide ((0 : Int) ≤ cutI s sl_), true), ((if 0 ≤ vaV (cutC s sl_) then vaV (cutC s sl_) else 0) == 1, true), (true, true)] [0, 1, 2, 3, 3, 4, 4, 3, 4, 3, 5, 6, 7, 8, 8, 8, 9, 2, 10, 7, 11, 12, 12, 12, 13, 4, 14, 14, 14, 15, 15, 15, 15, 16])) := by kernel_rfl
set_option maxRecDepth 100000 in
theorem rdf_010000001101 (s : ByteArray) : evR (ctxOf Tryd.prog noFacts (fun _ => false) libF3) Tryd.f8 [(.w (.one (.lit (.string s))))] [false, true, false, false, false, false, false, false, true, true, false, true] = some (AV.tup [AW.agg [AC.int IntKind.i64 0, AC.int IntKind.i64 0], AW.one (AC.int IntKind.i64 3)], (pickL [(decide (sLen (⟨#[47]⟩ : ByteArray) = 1), true), (decide (sLen s ≤ 9223372036854775807), true), (decide (sLen (rA s) ≤ 9223372036854775807), true), (!nuB (rA s), false), (rM s, true), (sEq (rA s) (⟨#[48]⟩ : ByteArray), false), (!decide ((0 : Int) ≤ cutI s sl_), false), (decide (sLen (cutC s sl_) ≤ 9223372036854775807), true), (!nuB (cutC s sl_), false), (sEq (cutC s sl_) (⟨#[48]⟩ : ByteArray), false), (alD (rA s), true), (alD (cutC s sl_), true), (!decide ((0 : Int) ≤ vaV (rA s)), false), (!decide ((0 : Int) ≤ vaV (cutC s sl_)), false), (decide ((0 : Int) ≤ cutI s sl_), true), ((if 0 ≤ vaV (cutC s sl_) then vaV (cutC s sl_) else 0) == 1, false), (i64R (IntKind.i64.wrap (0 - if 0 ≤ vaV (rA s) then vaV (rA s) else 0)), true), (i64R (if 0 ≤ vaV (cutC s sl_) then vaV (cutC s sl_) else 0), true), (chkV (IntKind.i64.wrap (0 - if 0 ≤ vaV (rA s) then vaV (rA s) else 0)) (if 0 ≤ vaV (cutC s sl_) then vaV (cutC s sl_) else 0) != 0, true)] [0, 1, 2, 3, 3, 4, 4, 3, 4, 3, 5, 6, 7, 8, 8, 8, 9, 2, 10, 7, 11, 12, 12, 12, 13, 4, 14, 14, 14, 15, 15, 16, 17, 15, 15, 18])) := by kernel_rfl
set_option maxRecDepth 100000 in
theorem rdf_010000001100 (s : ByteArray) : evR (ctxOf Tryd.prog noFacts (fun _ => false) libF3) Tryd.f8 [(.w (.one (.lit (.string s))))] [false, true, false, false, false, false, false, false, true, true, false, false] = some (AV.tup [AW.agg [AC.int IntKind.i64 (IntKind.i64.wrap (0 - if 0 ≤ vaV (rA s) then vaV (rA s) else 0)), AC.int IntKind.i64 (if 0 ≤ vaV (cutC s sl_) then vaV (cutC s sl_) else 0)], AW.one (AC.int IntKind.i64 0)], (pickL [(decide (sLen (⟨#[47]⟩ : ByteArray) = 1), true), (decide (sLen s ≤ 9223372036854775807), true), (decide (sLen (rA s) ≤ 9223372036854775807), true), (!nuB (rA s), false), (rM s, true), (sEq (rA s) (⟨#[48]⟩ : ByteArray), false), (!decide ((0 : Int) ≤ cutI s sl_), false), (decide (sLen (cutC s sl_) ≤ 9223372036854775807), true), (!nuB (cutC s sl_), false), (sEq (cutC s sl_) (⟨#[48]⟩ : ByteArray), false), (alD (rA s), true), (alD (cutC s sl_), true), (!decide ((0 : Int) ≤ vaV (rA s)), false), (!decide ((0 : Int) ≤ vaV (cutC s sl_)), false), (decide ((0 : Int) ≤ cutI s sl_), true), ((if 0 ≤ vaV (cutC s sl_) then vaV (cutC s sl_) else 0) == 1, false), (i64R (IntKind.i64.wrap (0 - if 0 ≤ vaV (rA s) then vaV (rA s) else 0)), true), (i64R (if 0 ≤ vaV (cutC s sl_) then vaV (cutC s sl_) else 0), true), (chkV (IntKind.i64.wrap (0 - if 0 ≤ vaV (rA s) then vaV (rA s) else 0)) (if 0 ≤ vaV (cutC s sl_) then vaV (cutC s sl_) else 0) != 0, false)] [0, 1, 2, 3, 3, 4, 4, 3, 4, 3, 5, 6, 7, 8, 8, 8, 9, 2, 10, 7, 11, 12, 12, 12, 13, 4, 14, 14, 14, 15, 15, 16, 17, 15, 15, 18])) := by kernel_rfl
set_option maxRecDepth 100000 in
theorem rdf_0011 (s : ByteArray) : evR (ctxOf Tryd.prog noFacts (fun _ => false) libF3) Tryd.f8 [(.w (.one (.lit (.string s))))] [false, false, true, true] = some (AV.tup [AW.agg [AC.int IntKind.i64 0, AC.int IntKind.i64 0], AW.one (AC.int IntKind.i64 2)], (pickL [(decide (sLen (⟨#[47]⟩ : ByteArray) = 1), true), (decide (sLen s ≤ 9223372036854775807), true), (decide (sLen (rA s) ≤ 9223372036854775807), true), (!nuB (rA s), false), (rM s, false), (false, false), (!decide ((0 : Int) ≤ cutI s sl_), true), (alD (rA s), true), (decide (sLen (⟨#[49]⟩ : ByteArray) ≤ 9223372036854775807), true), (alD (⟨#[49]⟩ : ByteArray), true), (!decide ((0 : Int) ≤ vaV (rA s)), true), (true, true)] [0, 1, 2, 3, 3, 4, 4, 3, 4, 3, 5, 6, 2, 7, 8, 9, 10, 10, 10, 11])) := by kernel_rfl
set_option maxRecDepth 100000 in
theorem rdf_00100001 (s : ByteArray) : evR (ctxOf Tryd.prog noFacts (fun _ => false) libF3) Tryd.f8 [(.w (.one (.lit (.string s))))] [false, false, true, false, false, false, false, true] = some (AV.tup [AW.agg [AC.int IntKind.i64 0, AC.int IntKind.i64 0], AW.one (AC.int IntKind.i64 3)], (pickL [(decide (sLen (⟨#[47]⟩ : ByteArray) = 1), true), (decide (sLen s ≤ 9223372036854775807), true), (decide (sLen (rA s) ≤ 9223372036854775807), true), (!nuB (rA s), false), (rM s, false), (false, false), (!decide ((0 : Int) ≤ cutI s sl_), true), (alD (rA s), true), (decide (sLen (⟨#[49]⟩ : ByteArray) ≤ 9223372036854775807), true), (alD (⟨#[49]⟩ : ByteArray), true), (!decide ((0 : Int) ≤ vaV (rA s)), false), (!decide ((0 : Int) ≤ vaV (⟨#[49]⟩ : ByteArray)), false), (decide ((0 : Int) ≤ cutI s sl_), false), (i64R (if 0 ≤ vaV (rA s) then vaV (rA s) else 0), true), (i64R (if 0 ≤ vaV (⟨#[49]⟩ : ByteArray) then vaV (⟨#[49]⟩ : ByteArray) else 0), true), (chkV (if 0 ≤ vaV (rA s) then vaV (rA s) else 0) (if 0 ≤ vaV (⟨#[49]⟩ : ByteArray) then vaV (⟨#[49]⟩ : ByteArray) else 0) != 0, true)] [0, 1, 2, 3, 3, 4, 4, 3, 4, 3, 5, 6, 2, 7, 8, 9, 10, 10, 10, 11, 4, 12, 12, 12, 5, 5, 13, 14, 5, 5, 15])) := by kernel_rfl
set_option maxRecDepth 100000 in
theorem rdf_00100000 (s : ByteArray) : evR (ctxOf Tryd.prog noFacts (fun _ => false) libF3) Tryd.f8 [(.w (.one (.lit (.string s))))] [false, false, true, false, false, false, false, false] = some (AV.tup [AW.agg [AC.int IntKind.i64 (if 0 ≤ vaV (rA s) then vaV (rA s) else 0), AC.int IntKind.i64 (if 0 ≤ vaV (⟨#[49]⟩ : ByteArray) then vaV (⟨#[49]⟩ : ByteArray) else 0)], AW.one (AC.int IntKind.i64 0)], (pickL [(decide (sLen (⟨#[47]⟩ : ByteArray) = 1), true), (decide (sLen s ≤ 9223372036854775807), true), (decide (sLen (rA s) ≤ 9223372036854775807), true), (!nuB (rA s), false), (rM s, false), (false, false), (!decide ((0 : Int) ≤ cutI s sl_), true), (alD (rA s), true), (decide (sLen (⟨#[49]⟩ : ByteArray) ≤ 9223372036854775807), true), (alD (⟨#[49]⟩ : ByteArray), true), (!decide ((0 : Int) ≤ vaV (rA s)), false), (!decide ((0 : Int) ≤ vaV (⟨#[49]⟩ : ByteArray)), false), (decide ((0 : Int) ≤ cutI s sl_), false), (i64R (if 0 ≤ vaV (rA s) then vaV (rA s) else 0), true), (i64R (if 0 ≤ vaV (⟨#[49]⟩ : ByteArray) then vaV (⟨#[49]⟩ : ByteArray) else 0), true), (chkV (if 0 ≤ vaV (rA s) then vaV (rA s) else 0) (if 0 ≤ vaV (⟨#[49]⟩ : ByteArray) then vaV (⟨#[49]⟩ : ByteArray) else 0) != 0, false)] [0, 1, 2, 3, 3, 4, 4, 3, 4, 3, 5, 6, 2, 7, 8, 9, 10, 10, 10, 11, 4, 12, 12, 12, 5, 5, 13, 14, 5, 5, 15])) := by kernel_rfl
set_option maxRecDepth 100000 in
theorem rdf_0001 (s : ByteArray) : evR (ctxOf Tryd.prog noFacts (fun _ => false) libF3) Tryd.f8 [(.w (.one (.lit (.string s))))] [false, false, false, true] = some (AV.tup [AW.agg [AC.int IntKind.i64 0, AC.int IntKind.i64 0], AW.one (AC.int IntKind.i64 5)], (pickL [(decide (sLen (⟨#[47]⟩ : ByteArray) = 1), true), (decide (sLen s ≤ 9223372036854775807), true), (decide (sLen (rA s) ≤ 9223372036854775807), true), (!nuB (rA s), false), (rM s, false), (false, false), (!decide ((0 : Int) ≤ cutI s sl_), false), (decide (sLen (cutC s sl_) ≤ 9223372036854775807), true), (!nuB (cutC s sl_), true), (true, true)] [0, 1, 2, 3, 3, 4, 4, 3, 4, 3, 5, 6, 7, 8, 8, 8, 9])) := by kernel_rfl
set_option maxRecDepth 100000 in
theorem rdf_00001 (s : ByteArray) : evR (ctxOf Tryd.prog noFacts (fun _ => false) libF3) Tryd.f8 [(.w (.one (.lit (.string s))))] [false, false, false, false, true] = some (AV.tup [AW.agg [AC.int IntKind.i64 0, AC.int IntKind.i64 0], AW.one (AC.int IntKind.i64 5)], (pickL [(decide (sLen (⟨#[47]⟩ : ByteArray) = 1), true), (decide (sLen s ≤ 9223372036854775807), true), (decide (sLen (rA s) ≤ 9223372036854775807), true), (!nuB (rA s), false), (rM s, false), (false, false), (!decide ((0 : Int) ≤ cutI s sl_), false), (decide (sLen (cutC s sl_) ≤ 9223372036854775807), true), (!nuB (cutC s sl_), false), (sEq (cutC s sl_) (⟨#[48]⟩ : ByteArray), true)] [0, 1, 2, 3, 3, 4, 4, 3, 4, 3, 5, 6, 7, 8, 8, 8, 9])) := by kernel_rfl
set_option maxRecDepth 100000 in
theorem rdf_000001 (s : ByteArray) : evR (ctxOf Tryd.prog noFacts (fun _ => false) libF3) Tryd.f8 [(.w (.one (.lit (.string s))))] [false, false, false, false, false, true] = some (AV.tup [AW.agg [AC.int IntKind.i64 0, AC.int IntKind.i64 0], AW.one (AC.int IntKind.i64 2)], (pickL [(decide (sLen (⟨#[47]⟩ : ByteArray) = 1), true), (decide (sLen s ≤ 9223372036854775807), true), (decide (sLen (rA s) ≤ 9223372036854775807), true), (!nuB (rA s), false), (rM s, false), (false, false), (!decide ((0 : Int) ≤ cutI s sl_), false), (decide (sLen (cutC s sl_) ≤ 9223372036854775807), true), (!nuB (cutC s sl_), false), (sEq (cutC s sl_) (⟨#[48]⟩ : ByteArray), false), (alD (rA s), true), (alD (cutC s sl_), true), (!decide ((0 : Int) ≤ vaV (rA s)), true), (true, true)] [0, 1, 2, 3, 3, 4, 4, 3, 4, 3, 5, 6, 7, 8, 8, 8, 9, 2, 10, 7, 11, 12, 12, 12, 13])) := by kernel_rfl
set_option maxRecDepth 100000 in
theorem rdf_0000001 (s : ByteArray) : evR (ctxOf Tryd.prog noFacts (fun _ => false) libF3) Tryd.f8 [(.w (.one (.lit (.string s))))] [false, false, false, false, false, false, true] = some (AV.tup [AW.agg [AC.int IntKind.i64 0, AC.int IntKind.i64 0], AW.one (AC.int IntKind.i64 2)], (pickL [(decide (sLen (⟨#[47]⟩ : ByteArray) = 1), true), (decide (sLen s ≤ 9223372036854775807), true), (decide (sLen (rA s) ≤ 9223372036854775807), true), (!nuB (rA s), false), (rM s, false), (false, false), (!decide ((0 : Int) ≤ cutI s sl_), false), (decide (sLen (cutC s sl_) ≤ 9223372036854775807), true), (!nuB (cutC s sl_), false), (sEq (cutC s sl_) (⟨#[48]⟩ : ByteArray), false), (alD (rA s), true), (alD (cutC s sl_), true), (!decide ((0 : Int) ≤ vaV (rA s)), false), (!decide ((0 : Int) ≤ vaV (cutC s sl_)), true)] [0, 1, 2, 3, 3, 4, 4, 3, 4, 3, 5, 6, 7, 8, 8, 8, 9, 2, 10, 7, 11, 12, 12, 12, 13])) := by kernel_rfl
set_option maxRecDepth 100000 in
theorem rdf_0000000011 (s : ByteArray) : evR (ctxOf Tryd.prog noFacts (fun _ => false) libF3) Tryd.f8 [(.w (.one (.lit (.string s))))] [false, false, false, false, false, false, false, false, true, true] = some (AV.tup [AW.agg [AC.int IntKind.i64 0, AC.int IntKind.i64 0], AW.one (AC.int IntKind.i64 3)], (pickL [(decide (sLen (⟨#[47]⟩ : ByteArray) = 1), true), (decide (sLen s ≤ 9223372036854775807), true), (decide (sLen (rA s) ≤ 9223372036854775807), true), (!nuB (rA s), false), (rM s, false), (false, false), (!decide ((0 : Int) ≤ cutI s sl_), false), (decide (sLen (cutC s sl_) ≤ 9223372036854775807), true), (!nuB (cutC s sl_), false), (sEq (cutC s sl_) (⟨#[48]⟩ : ByteArray), false), (alD (rA s), true), (alD (cutC s sl_), true), (!decide ((0 : Int) ≤ vaV (rA s)), false), (!decide ((0 : Int) ≤ vaV (cutC s sl_)), false), (decide ((0 : Int) ≤ cutI s sl_), true), ((if 0 ≤ vaV (cutC s sl_) then vaV (cutC s sl_) else 0) == 1, true), (true, true)] [0, 1, 2, 3, 3, 4, 4, 3, 4, 3, 5, 6, 7, 8, 8, 8, 9, 2, 10, 7, 11, 12, 12, 12, 13, 4, 14, 14, 14, 15, 15, 15, 15, 16])) := by kernel_rfl
set_option maxRecDepth 100000 in
theorem rdf_00000000101 (s : ByteArray) : evR (ctxOf Tryd.prog noFacts (fun _ => false) libF3) Tryd.f8 [(.w (.one (.lit (.string s))))] [false, false, false, false, false, false, false, false, true, false, true] = some (AV.tup [AW.agg [AC.int IntKind.i64 0, AC.int IntKind.i64 0], AW.one (AC.int IntKind.i64 3)], (pickL [(decide (sLen (⟨#[47]⟩ : ByteArray) = 1), true), (decide (sLen s ≤ 9223372036854775807), true), (decide (sLen (rA s) ≤ 9223372036854775807), true), (!nuB (rA s), false), (rM s, false), (false, false), (!decide ((0 : Int) ≤ cutI s sl_), false), (decide (sLen (cutC s sl_) ≤ 9223372036854775807), true), (!nuB (cutC s sl_), false), (sEq (cutC s sl_) (⟨#[48]⟩ : ByteArray), false), (alD (rA s), true), (alD (cutC s sl_), true), (!decide ((0 : Int) ≤ vaV (rA s)), false), (!decide ((0 : Int) ≤ vaV (cutC s sl_)), false), (decide ((0 : Int) ≤ cutI s sl_), true), ((if 0 ≤ vaV (cutC s sl_) then vaV (cutC s sl_) else 0) == 1, false), (i64R (if 0 ≤ vaV (rA s) then vaV (rA s) else 0), true), (i64R (if 0 ≤ vaV (cutC s sl_) then vaV (cutC s sl_) else 0), true), (chkV (if 0 ≤ vaV (rA s) then vaV (rA s) else 0) (if 0 ≤ vaV (cutC s sl_) then vaV (cutC s sl_) else 0) != 0, true)] [0, 1, 2, 3, 3, 4, 4, 3, 4, 3, 5, 6, 7, 8, 8, 8, 9, 2, 10, 7, 11, 12, 12, 12, 13, 4, 14, 14, 14, 15, 15, 16, 17, 15, 15, 18])) := by kernel_rfl
set_option maxRecDepth 100000 in
theorem rdf_00000000100 (s : ByteArray) : evR (ctxOf Tryd.prog noFacts (fun _ => false) libF3) Tryd.f8 [(.w (.one (.lit (.string s))))] [false, false, false, false, false, false, false, false, true, false, false] = some (AV.tup [AW.agg [AC.int IntKind.i64 (if 0 ≤ vaV (rA s) then vaV (rA s) else 0), AC.int IntKind.i64 (if 0 ≤ vaV (cutC s sl_) then vaV (cutC s sl_) else 0)], AW.one (AC.int IntKind.i64 0)], (pickL [(decide (sLen (⟨#[47]⟩ : ByteArray) = 1), true), (decide (sLen s ≤ 9223372036854775807), true), (decide (sLen (rA s) ≤ 9223372036854775807), true), (!nuB (rA s), false), (rM s, false), (false, false), (!decide ((0 : Int) ≤ cutI s sl_), false), (decide (sLen (cutC s sl_) ≤ 9223372036854775807), true), (!nuB (cutC s sl_), false), (sEq (cutC s sl_) (⟨#[48]⟩ : ByteArray), false), (alD (rA s), true), (alD (cutC s sl_), true), (!decide ((0 : Int) ≤ vaV (rA s)), false), (!decide ((0 : Int) ≤ vaV (cutC s sl_)), false), (decide ((0 : Int) ≤ cutI s sl_), true), ((if 0 ≤ vaV (cutC s sl_) then vaV (cutC s sl_) else 0) == 1, false), (i64R (if 0 ≤ vaV (rA s) then vaV (rA s) else 0), true), (i64R (if 0 ≤ vaV (cutC s sl_) then vaV (cutC s sl_) else 0), true), (chkV (if 0 ≤ vaV (rA s) then vaV (rA s) else 0) (if 0 ≤ vaV (cutC s sl_) then vaV (cutC s sl_) else 0) != 0, false)] [0, 1, 2, 3, 3, 4, 4, 3, 4, 3, 5, 6, 7, 8, 8, 8, 9, 2, 10, 7, 11, 12, 12, 12, 13, 4, 14, 14, 14, 15, 15, 16, 17, 15, 15, 18])) := by kernel_rfl
set_option maxHeartbeats 8000000 in
theorem read_pl (s : ByteArray) (hs : sLen s ≤ 9223372036854775807) : Pl Tryd.prog 8 [.string s] (.tuple #[.agg #[.int .i64 (rX s), .int .i64 (rY s)], .int .i64 (rE s)]) := fun w => by
  have n0 : 0 ≤ sLen s := by unfold sLen; omega
  have f0 : decide (sLen s ≤ 9223372036854775807) = true := decide_eq_true hs
  have f1 : decide (sLen (rA s) ≤ 9223372036854775807) = true := decide_eq_true (by have := cp_len (cutA s sl_) mi_; have := cutA_len s sl_; unfold rA; omega)
  have f2 : decide (sLen (cutC s sl_) ≤ 9223372036854775807) = true := decide_eq_true (by have := cutC_len s sl_ n0; omega)
  have f3 : decide (sLen (⟨#[49]⟩ : ByteArray) ≤ 9223372036854775807) = true := by decide
  have f4 : alD (⟨#[49]⟩ : ByteArray) = true := by decide +kernel
  have f5 : decide (sLen (⟨#[47]⟩ : ByteArray) = 1) = true := by decide
  have lA := va_le (rA s)
  have l1 := va_one
  cases hA : nuB (rA s) with
  | false =>
    have k0 : (!nuB (rA s)) = true := by rw [hA]; rfl
    have hE : rE s = 5 := by
      unfold rE
      simp_all
      try (intros; omega)
    have hX : rX s = 0 := by unfold rX; rw [hE]; rfl
    have hY : rY s = 0 := by unfold rY; rw [hE]; rfl
    rw [hE, hX, hY]
    refine evR_calls (I := noFacts) (v := .tuple _) (ctxOf_ok libF3_ok (eq_none _)) (by kernel_rfl) Tryd.func8 rfl lps_nil (rdf_1 s) rfl (all2_R (.cons rfl .nil)) rfl w (Nat.zero_le _) (pickL_ok ?_ _)
    repeat' (first | exact cd_nil | refine cd_cons ?_ ?_)
    all_goals first | with_reducible assumption | with_reducible rfl | decide | exact f0

  | true =>
    have k0 : (!nuB (rA s)) = false := by rw [hA]; rfl
    have aA := nu_al hA
    cases hM : rM s with
    | true =>
      cases hZ0 : sEq (rA s) ⟨#[48]⟩ with
      | true =>
        have hE : rE s = 5 := by
          unfold rE
          simp_all
          try (intros; omega)
        have hX : rX s = 0 := by unfold rX; rw [hE]; rfl
        have hY : rY s = 0 := by unfold rY; rw [hE]; rfl
        rw [hE, hX, hY]
        refine evR_calls (I := noFacts) (v := .tuple _) (ctxOf_ok libF3_ok (eq_none _)) (by kernel_rfl) Tryd.func8 rfl lps_nil (rdf_011 s) rfl (all2_R (.cons rfl .nil)) rfl w (Nat.zero_le _) (pickL_ok ?_ _)
        repeat' (first | exact cd_nil | refine cd_cons ?_ ?_)
        all_goals first | with_reducible assumption | with_reducible rfl | decide | exact f0

      | false =>
        cases hS : rS s with
        | false =>
          have hB : rB s = ⟨#[49]⟩ := by unfold rB; rw [hS]; rfl
          have k3 : (!rS s) = true := by rw [hS]; rfl
          have hS' : decide (0 ≤ cutI s sl_) = false := hS
          have k3' : (!decide (0 ≤ cutI s sl_)) = true := k3
          have g2 : 0 ≤ vaV (⟨#[49]⟩ : ByteArray) := by rw [va_one]; omega
          have k5 : (!decide ((0 : Int) ≤ vaV (⟨#[49]⟩ : ByteArray))) = false := by rw [decide_eq_true g2]; rfl
          by_cases g1 : 0 ≤ vaV (rA s)
          · have k4 : (!decide ((0 : Int) ≤ vaV (rA s))) = false := by rw [decide_eq_true g1]; rfl
            have eN : rN s = (IntKind.i64.wrap (0 - if 0 ≤ vaV (rA s) then vaV (rA s) else 0)) := by unfold rN; rw [hM, if_pos g1]; rw [if_pos rfl, IntWalk.i64_in _ (by omega)]; omega
            have iN : i64R (IntKind.i64.wrap (0 - if 0 ≤ vaV (rA s) then vaV (rA s) else 0)) = true := by rw [← eN]; unfold i64R rN; rw [hM]; simp only [Bool.and_eq_true, decide_eq_true_eq]; simp; omega
            have eB : vaV (rB s) = (if 0 ≤ vaV (⟨#[49]⟩ : ByteArray) then vaV (⟨#[49]⟩ : ByteArray) else 0) := by rw [hB, if_pos g2]
            have iB : i64R (if 0 ≤ vaV (⟨#[49]⟩ : ByteArray) then vaV (⟨#[49]⟩ : ByteArray) else 0) = true := by rw [if_pos g2]; unfold i64R; simp only [Bool.and_eq_true, decide_eq_true_eq]; omega
            have eC : chkV (rN s) (vaV (rB s)) = chkV (IntKind.i64.wrap (0 - if 0 ≤ vaV (rA s) then vaV (rA s) else 0)) (if 0 ≤ vaV (⟨#[49]⟩ : ByteArray) then vaV (⟨#[49]⟩ : ByteArray) else 0) := by rw [← eN, ← eB]
            by_cases hC : chkV (rN s) (vaV (rB s)) = 0
            · have kC : (chkV (IntKind.i64.wrap (0 - if 0 ≤ vaV (rA s) then vaV (rA s) else 0)) (if 0 ≤ vaV (⟨#[49]⟩ : ByteArray) then vaV (⟨#[49]⟩ : ByteArray) else 0) != 0) = false := by rw [← eC, hC]; rfl
              have hE : rE s = 0 := by
                unfold rE
                simp_all
                try (intros; omega)
              have hX : rX s = (IntKind.i64.wrap (0 - if 0 ≤ vaV (rA s) then vaV (rA s) else 0)) := by unfold rX; rw [hE, if_pos rfl, eN]
              have hY : rY s = (if 0 ≤ vaV (⟨#[49]⟩ : ByteArray) then vaV (⟨#[49]⟩ : ByteArray) else 0) := by unfold rY; rw [hE, if_pos rfl, eB]
              rw [hE, hX, hY]
              refine evR_calls (I := noFacts) (v := .tuple _) (ctxOf_ok libF3_ok (eq_none _)) (by kernel_rfl) Tryd.func8 rfl lps_nil (rdf_010100100 s) rfl (all2_R (.cons rfl .nil)) rfl w (Nat.zero_le _) (pickL_ok ?_ _)
              repeat' (first | exact cd_nil | refine cd_cons ?_ ?_)
              all_goals first | with_reducible assumption | with_reducible rfl | decide | exact f0

            · have kC : (chkV (IntKind.i64.wrap (0 - if 0 ≤ vaV (rA s) then vaV (rA s) else 0)) (if 0 ≤ vaV (⟨#[49]⟩ : ByteArray) then vaV (⟨#[49]⟩ : ByteArray) else 0) != 0) = true := by rw [← eC]; simpa using hC
              have hE : rE s = 3 := by
                unfold rE
                simp_all
                try (intros; omega)
              have hX : rX s = 0 := by unfold rX; rw [hE]; rfl
              have hY : rY s = 0 := by unfold rY; rw [hE]; rfl
              rw [hE, hX, hY]
              refine evR_calls (I := noFacts) (v := .tuple _) (ctxOf_ok libF3_ok (eq_none _)) (by kernel_rfl) Tryd.func8 rfl lps_nil (rdf_010100101 s) rfl (all2_R (.cons rfl .nil)) rfl w (Nat.zero_le _) (pickL_ok ?_ _)
              repeat' (first | exact cd_nil | refine cd_cons ?_ ?_)
              all_goals first | with_reducible assumption | with_reducible rfl | decide | exact f0


          · have k4 : (!decide ((0 : Int) ≤ vaV (rA s))) = true := by rw [decide_eq_false g1]; rfl
            have hE : rE s = 2 := by
              unfold rE
              simp_all
              try (intros; omega)
            have hX : rX s = 0 := by unfold rX; rw [hE]; rfl
            have hY : rY s = 0 := by unfold rY; rw [hE]; rfl
            rw [hE, hX, hY]
            refine evR_calls (I := noFacts) (v := .tuple _) (ctxOf_ok libF3_ok (eq_none _)) (by kernel_rfl) Tryd.func8 rfl lps_nil (rdf_01011 s) rfl (all2_R (.cons rfl .nil)) rfl w (Nat.zero_le _) (pickL_ok ?_ _)
            repeat' (first | exact cd_nil | refine cd_cons ?_ ?_)
            all_goals first | with_reducible assumption | with_reducible rfl | decide | exact f0

        | true =>
          have hB : rB s = cutC s sl_ := by unfold rB; rw [hS]; rfl
          have k3' : (!decide (0 ≤ cutI s sl_)) = false := by rw [show decide (0 ≤ cutI s sl_) = true from hS]; rfl
          have hS' : decide (0 ≤ cutI s sl_) = true := hS
          cases hN : nuB (cutC s sl_) with
          | false =>
            have k6 : (!nuB (cutC s sl_)) = true := by rw [hN]; rfl
            have hE : rE s = 5 := by
              unfold rE
              simp_all
              try (intros; omega)
            have hX : rX s = 0 := by unfold rX; rw [hE]; rfl
            have hY : rY s = 0 := by unfold rY; rw [hE]; rfl
            rw [hE, hX, hY]
            refine evR_calls (I := noFacts) (v := .tuple _) (ctxOf_ok libF3_ok (eq_none _)) (by kernel_rfl) Tryd.func8 rfl lps_nil (rdf_01001 s) rfl (all2_R (.cons rfl .nil)) rfl w (Nat.zero_le _) (pickL_ok ?_ _)
            repeat' (first | exact cd_nil | refine cd_cons ?_ ?_)
            all_goals first | with_reducible assumption | with_reducible rfl | decide | exact f0

          | true =>
            have k6 : (!nuB (cutC s sl_)) = false := by rw [hN]; rfl
            have aB := nu_al hN
            have lB := va_le (cutC s sl_)
            cases hZ : sEq (cutC s sl_) ⟨#[48]⟩ with
            | true =>
              have hE : rE s = 5 := by
                unfold rE
                simp_all
                try (intros; omega)
              have hX : rX s = 0 := by unfold rX; rw [hE]; rfl
              have hY : rY s = 0 := by unfold rY; rw [hE]; rfl
              rw [hE, hX, hY]
              refine evR_calls (I := noFacts) (v := .tuple _) (ctxOf_ok libF3_ok (eq_none _)) (by kernel_rfl) Tryd.func8 rfl lps_nil (rdf_010001 s) rfl (all2_R (.cons rfl .nil)) rfl w (Nat.zero_le _) (pickL_ok ?_ _)
              repeat' (first | exact cd_nil | refine cd_cons ?_ ?_)
              all_goals first | with_reducible assumption | with_reducible rfl | decide | exact f0

            | false =>
              by_cases g1 : 0 ≤ vaV (rA s)
              · have k4 : (!decide ((0 : Int) ≤ vaV (rA s))) = false := by rw [decide_eq_true g1]; rfl
                by_cases g2 : 0 ≤ vaV (cutC s sl_)
                · have k5 : (!decide ((0 : Int) ≤ vaV (cutC s sl_))) = false := by rw [decide_eq_true g2]; rfl
                  by_cases g3 : vaV (cutC s sl_) = 1
                  · have k7 : ((if 0 ≤ vaV (cutC s sl_) then vaV (cutC s sl_) else 0) == 1) = true := by rw [if_pos g2, g3]; rfl
                    have hE : rE s = 3 := by
                      unfold rE
                      simp_all
                      try (intros; omega)
                    have hX : rX s = 0 := by unfold rX; rw [hE]; rfl
                    have hY : rY s = 0 := by unfold rY; rw [hE]; rfl
                    rw [hE, hX, hY]
                    refine evR_calls (I := noFacts) (v := .tuple _) (ctxOf_ok libF3_ok (eq_none _)) (by kernel_rfl) Tryd.func8 rfl lps_nil (rdf_01000000111 s) rfl (all2_R (.cons rfl .nil)) rfl w (Nat.zero_le _) (pickL_ok ?_ _)
                    repeat' (first | exact cd_nil | refine cd_cons ?_ ?_)
                    all_goals first | with_reducible assumption | with_reducible rfl | decide | exact f0

                  · have k7 : ((if 0 ≤ vaV (cutC s sl_) then vaV (cutC s sl_) else 0) == 1) = false := by rw [if_pos g2]; simpa using g3
                    have eN : rN s = (IntKind.i64.wrap (0 - if 0 ≤ vaV (rA s) then vaV (rA s) else 0)) := by unfold rN; rw [hM, if_pos g1]; rw [if_pos rfl, IntWalk.i64_in _ (by omega)]; omega
                    have iN : i64R (IntKind.i64.wrap (0 - if 0 ≤ vaV (rA s) then vaV (rA s) else 0)) = true := by rw [← eN]; unfold i64R rN; rw [hM]; simp only [Bool.and_eq_true, decide_eq_true_eq]; simp; omega
                    have eB : vaV (rB s) = (if 0 ≤ vaV (cutC s sl_) then vaV (cutC s sl_) else 0) := by rw [hB, if_pos g2]
                    have iB : i64R (if 0 ≤ vaV (cutC s sl_) then vaV (cutC s sl_) else 0) = true := by rw [if_pos g2]; unfold i64R; simp only [Bool.and_eq_true, decide_eq_true_eq]; omega
                    have eC : chkV (rN s) (vaV (rB s)) = chkV (IntKind.i64.wrap (0 - if 0 ≤ vaV (rA s) then vaV (rA s) else 0)) (if 0 ≤ vaV (cutC s sl_) then vaV (cutC s sl_) else 0) := by rw [← eN, ← eB]
                    by_cases hC : chkV (rN s) (vaV (rB s)) = 0
                    · have kC : (chkV (IntKind.i64.wrap (0 - if 0 ≤ vaV (rA s) then vaV (rA s) else 0)) (if 0 ≤ vaV (cutC s sl_) then vaV (cutC s sl_) else 0) != 0) = false := by rw [← eC, hC]; rfl
                      have hE : rE s = 0 := by
                        unfold rE
                        simp_all
                        try (intros; omega)
                      have hX : rX s = (IntKind.i64.wrap (0 - if 0 ≤ vaV (rA s) then vaV (rA s) else 0)) := by unfold rX; rw [hE, if_pos rfl, eN]
                      have hY : rY s = (if 0 ≤ vaV (cutC s sl_) then vaV (cutC s sl_) else 0) := by unfold rY; rw [hE, if_pos rfl, eB]
                      rw [hE, hX, hY]
                      refine evR_calls (I := noFacts) (v := .tuple _) (ctxOf_ok libF3_ok (eq_none _)) (by kernel_rfl) Tryd.func8 rfl lps_nil (rdf_010000001100 s) rfl (all2_R (.cons rfl .nil)) rfl w (Nat.zero_le _) (pickL_ok ?_ _)
                      repeat' (first | exact cd_nil | refine cd_cons ?_ ?_)
                      all_goals first | with_reducible assumption | with_reducible rfl | decide | exact f0

                    · have kC : (chkV (IntKind.i64.wrap (0 - if 0 ≤ vaV (rA s) then vaV (rA s) else 0)) (if 0 ≤ vaV (cutC s sl_) then vaV (cutC s sl_) else 0) != 0) = true := by rw [← eC]; simpa using hC
                      have hE : rE s = 3 := by
                        unfold rE
                        simp_all
                        try (intros; omega)
                      have hX : rX s = 0 := by unfold rX; rw [hE]; rfl
                      have hY : rY s = 0 := by unfold rY; rw [hE]; rfl
                      rw [hE, hX, hY]
                      refine evR_calls (I := noFacts) (v := .tuple _) (ctxOf_ok libF3_ok (eq_none _)) (by kernel_rfl) Tryd.func8 rfl lps_nil (rdf_010000001101 s) rfl (all2_R (.cons rfl .nil)) rfl w (Nat.zero_le _) (pickL_ok ?_ _)
                      repeat' (first | exact cd_nil | refine cd_cons ?_ ?_)
                      all_goals first | with_reducible assumption | with_reducible rfl | decide | exact f0


                · have k5 : (!decide ((0 : Int) ≤ vaV (cutC s sl_))) = true := by rw [decide_eq_false g2]; rfl
                  have hE : rE s = 2 := by
                    unfold rE
                    simp_all
                    try (intros; omega)
                  have hX : rX s = 0 := by unfold rX; rw [hE]; rfl
                  have hY : rY s = 0 := by unfold rY; rw [hE]; rfl
                  rw [hE, hX, hY]
                  refine evR_calls (I := noFacts) (v := .tuple _) (ctxOf_ok libF3_ok (eq_none _)) (by kernel_rfl) Tryd.func8 rfl lps_nil (rdf_01000001 s) rfl (all2_R (.cons rfl .nil)) rfl w (Nat.zero_le _) (pickL_ok ?_ _)
                  repeat' (first | exact cd_nil | refine cd_cons ?_ ?_)
                  all_goals first | with_reducible assumption | with_reducible rfl | decide | exact f0

              · have k4 : (!decide ((0 : Int) ≤ vaV (rA s))) = true := by rw [decide_eq_false g1]; rfl
                have hE : rE s = 2 := by
                  unfold rE
                  simp_all
                  try (intros; omega)
                have hX : rX s = 0 := by unfold rX; rw [hE]; rfl
                have hY : rY s = 0 := by unfold rY; rw [hE]; rfl
                rw [hE, hX, hY]
                refine evR_calls (I := noFacts) (v := .tuple _) (ctxOf_ok libF3_ok (eq_none _)) (by kernel_rfl) Tryd.func8 rfl lps_nil (rdf_0100001 s) rfl (all2_R (.cons rfl .nil)) rfl w (Nat.zero_le _) (pickL_ok ?_ _)
                repeat' (first | exact cd_nil | refine cd_cons ?_ ?_)
                all_goals first | with_reducible assumption | with_reducible rfl | decide | exact f0


    | false =>
      cases hS : rS s with
      | false =>
        have hB : rB s = ⟨#[49]⟩ := by unfold rB; rw [hS]; rfl
        have k3 : (!rS s) = true := by rw [hS]; rfl
        have hS' : decide (0 ≤ cutI s sl_) = false := hS
        have k3' : (!decide (0 ≤ cutI s sl_)) = true := k3
        have g2 : 0 ≤ vaV (⟨#[49]⟩ : ByteArray) := by rw [va_one]; omega
        have k5 : (!decide ((0 : Int) ≤ vaV (⟨#[49]⟩ : ByteArray))) = false := by rw [decide_eq_true g2]; rfl
        by_cases g1 : 0 ≤ vaV (rA s)
        · have k4 : (!decide ((0 : Int) ≤ vaV (rA s))) = false := by rw [decide_eq_true g1]; rfl
          have eN : rN s = (if 0 ≤ vaV (rA s) then vaV (rA s) else 0) := by unfold rN; rw [hM, if_pos g1]; rfl
          have iN : i64R (if 0 ≤ vaV (rA s) then vaV (rA s) else 0) = true := by rw [← eN]; unfold i64R rN; rw [hM]; simp only [Bool.and_eq_true, decide_eq_true_eq]; simp; omega
          have eB : vaV (rB s) = (if 0 ≤ vaV (⟨#[49]⟩ : ByteArray) then vaV (⟨#[49]⟩ : ByteArray) else 0) := by rw [hB, if_pos g2]
          have iB : i64R (if 0 ≤ vaV (⟨#[49]⟩ : ByteArray) then vaV (⟨#[49]⟩ : ByteArray) else 0) = true := by rw [if_pos g2]; unfold i64R; simp only [Bool.and_eq_true, decide_eq_true_eq]; omega
          have eC : chkV (rN s) (vaV (rB s)) = chkV (if 0 ≤ vaV (rA s) then vaV (rA s) else 0) (if 0 ≤ vaV (⟨#[49]⟩ : ByteArray) then vaV (⟨#[49]⟩ : ByteArray) else 0) := by rw [← eN, ← eB]
          by_cases hC : chkV (rN s) (vaV (rB s)) = 0
          · have kC : (chkV (if 0 ≤ vaV (rA s) then vaV (rA s) else 0) (if 0 ≤ vaV (⟨#[49]⟩ : ByteArray) then vaV (⟨#[49]⟩ : ByteArray) else 0) != 0) = false := by rw [← eC, hC]; rfl
            have hE : rE s = 0 := by
              unfold rE
              simp_all
              try (intros; omega)
            have hX : rX s = (if 0 ≤ vaV (rA s) then vaV (rA s) else 0) := by unfold rX; rw [hE, if_pos rfl, eN]
            have hY : rY s = (if 0 ≤ vaV (⟨#[49]⟩ : ByteArray) then vaV (⟨#[49]⟩ : ByteArray) else 0) := by unfold rY; rw [hE, if_pos rfl, eB]
            rw [hE, hX, hY]
            refine evR_calls (I := noFacts) (v := .tuple _) (ctxOf_ok libF3_ok (eq_none _)) (by kernel_rfl) Tryd.func8 rfl lps_nil (rdf_00100000 s) rfl (all2_R (.cons rfl .nil)) rfl w (Nat.zero_le _) (pickL_ok ?_ _)
            repeat' (first | exact cd_nil | refine cd_cons ?_ ?_)
            all_goals first | with_reducible assumption | with_reducible rfl | decide | exact f0

          · have kC : (chkV (if 0 ≤ vaV (rA s) then vaV (rA s) else 0) (if 0 ≤ vaV (⟨#[49]⟩ : ByteArray) then vaV (⟨#[49]⟩ : ByteArray) else 0) != 0) = true := by rw [← eC]; simpa using hC
            have hE : rE s = 3 := by
              unfold rE
              simp_all
              try (intros; omega)
            have hX : rX s = 0 := by unfold rX; rw [hE]; rfl
            have hY : rY s = 0 := by unfold rY; rw [hE]; rfl
            rw [hE, hX, hY]
            refine evR_calls (I := noFacts) (v := .tuple _) (ctxOf_ok libF3_ok (eq_none _)) (by kernel_rfl) Tryd.func8 rfl lps_nil (rdf_00100001 s) rfl (all2_R (.cons rfl .nil)) rfl w (Nat.zero_le _) (pickL_ok ?_ _)
            repeat' (first | exact cd_nil | refine cd_cons ?_ ?_)
            all_goals first | with_reducible assumption | with_reducible rfl | decide | exact f0


        · have k4 : (!decide ((0 : Int) ≤ vaV (rA s))) = true := by rw [decide_eq_false g1]; rfl
          have hE : rE s = 2 := by
            unfold rE
            simp_all
            try (intros; omega)
          have hX : rX s = 0 := by unfold rX; rw [hE]; rfl
          have hY : rY s = 0 := by unfold rY; rw [hE]; rfl
          rw [hE, hX, hY]
          refine evR_calls (I := noFacts) (v := .tuple _) (ctxOf_ok libF3_ok (eq_none _)) (by kernel_rfl) Tryd.func8 rfl lps_nil (rdf_0011 s) rfl (all2_R (.cons rfl .nil)) rfl w (Nat.zero_le _) (pickL_ok ?_ _)
          repeat' (first | exact cd_nil | refine cd_cons ?_ ?_)
          all_goals first | with_reducible assumption | with_reducible rfl | decide | exact f0

      | true =>
        have hB : rB s = cutC s sl_ := by unfold rB; rw [hS]; rfl
        have k3' : (!decide (0 ≤ cutI s sl_)) = false := by rw [show decide (0 ≤ cutI s sl_) = true from hS]; rfl
        have hS' : decide (0 ≤ cutI s sl_) = true := hS
        cases hN : nuB (cutC s sl_) with
        | false =>
          have k6 : (!nuB (cutC s sl_)) = true := by rw [hN]; rfl
          have hE : rE s = 5 := by
            unfold rE
            simp_all
            try (intros; omega)
          have hX : rX s = 0 := by unfold rX; rw [hE]; rfl
          have hY : rY s = 0 := by unfold rY; rw [hE]; rfl
          rw [hE, hX, hY]
          refine evR_calls (I := noFacts) (v := .tuple _) (ctxOf_ok libF3_ok (eq_none _)) (by kernel_rfl) Tryd.func8 rfl lps_nil (rdf_0001 s) rfl (all2_R (.cons rfl .nil)) rfl w (Nat.zero_le _) (pickL_ok ?_ _)
          repeat' (first | exact cd_nil | refine cd_cons ?_ ?_)
          all_goals first | with_reducible assumption | with_reducible rfl | decide | exact f0

        | true =>
          have k6 : (!nuB (cutC s sl_)) = false := by rw [hN]; rfl
          have aB := nu_al hN
          have lB := va_le (cutC s sl_)
          cases hZ : sEq (cutC s sl_) ⟨#[48]⟩ with
          | true =>
            have hE : rE s = 5 := by
              unfold rE
              simp_all
              try (intros; omega)
            have hX : rX s = 0 := by unfold rX; rw [hE]; rfl
            have hY : rY s = 0 := by unfold rY; rw [hE]; rfl
            rw [hE, hX, hY]
            refine evR_calls (I := noFacts) (v := .tuple _) (ctxOf_ok libF3_ok (eq_none _)) (by kernel_rfl) Tryd.func8 rfl lps_nil (rdf_00001 s) rfl (all2_R (.cons rfl .nil)) rfl w (Nat.zero_le _) (pickL_ok ?_ _)
            repeat' (first | exact cd_nil | refine cd_cons ?_ ?_)
            all_goals first | with_reducible assumption | with_reducible rfl | decide | exact f0

          | false =>
            by_cases g1 : 0 ≤ vaV (rA s)
            · have k4 : (!decide ((0 : Int) ≤ vaV (rA s))) = false := by rw [decide_eq_true g1]; rfl
              by_cases g2 : 0 ≤ vaV (cutC s sl_)
              · have k5 : (!decide ((0 : Int) ≤ vaV (cutC s sl_))) = false := by rw [decide_eq_true g2]; rfl
                by_cases g3 : vaV (cutC s sl_) = 1
                · have k7 : ((if 0 ≤ vaV (cutC s sl_) then vaV (cutC s sl_) else 0) == 1) = true := by rw [if_pos g2, g3]; rfl
                  have hE : rE s = 3 := by
                    unfold rE
                    simp_all
                    try (intros; omega)
                  have hX : rX s = 0 := by unfold rX; rw [hE]; rfl
                  have hY : rY s = 0 := by unfold rY; rw [hE]; rfl
                  rw [hE, hX, hY]
                  refine evR_calls (I := noFacts) (v := .tuple _) (ctxOf_ok libF3_ok (eq_none _)) (by kernel_rfl) Tryd.func8 rfl lps_nil (rdf_0000000011 s) rfl (all2_R (.cons rfl .nil)) rfl w (Nat.zero_le _) (pickL_ok ?_ _)
                  repeat' (first | exact cd_nil | refine cd_cons ?_ ?_)
                  all_goals first | with_reducible assumption | with_reducible rfl | decide | exact f0

                · have k7 : ((if 0 ≤ vaV (cutC s sl_) then vaV (cutC s sl_) else 0) == 1) = false := by rw [if_pos g2]; simpa using g3
                  have eN : rN s = (if 0 ≤ vaV (rA s) then vaV (rA s) else 0) := by unfold rN; rw [hM, if_pos g1]; rfl
                  have iN : i64R (if 0 ≤ vaV (rA s) then vaV (rA s) else 0) = true := by rw [← eN]; unfold i64R rN; rw [hM]; simp only [Bool.and_eq_true, decide_eq_true_eq]; simp; omega
                  have eB : vaV (rB s) = (if 0 ≤ vaV (cutC s sl_) then vaV (cutC s sl_) else 0) := by rw [hB, if_pos g2]
                  have iB : i64R (if 0 ≤ vaV (cutC s sl_) then vaV (cutC s sl_) else 0) = true := by rw [if_pos g2]; unfold i64R; simp only [Bool.and_eq_true, decide_eq_true_eq]; omega
                  have eC : chkV (rN s) (vaV (rB s)) = chkV (if 0 ≤ vaV (rA s) then vaV (rA s) else 0) (if 0 ≤ vaV (cutC s sl_) then vaV (cutC s sl_) else 0) := by rw [← eN, ← eB]
                  by_cases hC : chkV (rN s) (vaV (rB s)) = 0
                  · have kC : (chkV (if 0 ≤ vaV (rA s) then vaV (rA s) else 0) (if 0 ≤ vaV (cutC s sl_) then vaV (cutC s sl_) else 0) != 0) = false := by rw [← eC, hC]; rfl
                    have hE : rE s = 0 := by
                      unfold rE
                      simp_all
                      try (intros; omega)
                    have hX : rX s = (if 0 ≤ vaV (rA s) then vaV (rA s) else 0) := by unfold rX; rw [hE, if_pos rfl, eN]
                    have hY : rY s = (if 0 ≤ vaV (cutC s sl_) then vaV (cutC s sl_) else 0) := by unfold rY; rw [hE, if_pos rfl, eB]
                    rw [hE, hX, hY]
                    refine evR_calls (I := noFacts) (v := .tuple _) (ctxOf_ok libF3_ok (eq_none _)) (by kernel_rfl) Tryd.func8 rfl lps_nil (rdf_00000000100 s) rfl (all2_R (.cons rfl .nil)) rfl w (Nat.zero_le _) (pickL_ok ?_ _)
                    repeat' (first | exact cd_nil | refine cd_cons ?_ ?_)
                    all_goals first | with_reducible assumption | with_reducible rfl | decide | exact f0

                  · have kC : (chkV (if 0 ≤ vaV (rA s) then vaV (rA s) else 0) (if 0 ≤ vaV (cutC s sl_) then vaV (cutC s sl_) else 0) != 0) = true := by rw [← eC]; simpa using hC
                    have hE : rE s = 3 := by
                      unfold rE
                      simp_all
                      try (intros; omega)
                    have hX : rX s = 0 := by unfold rX; rw [hE]; rfl
                    have hY : rY s = 0 := by unfold rY; rw [hE]; rfl
                    rw [hE, hX, hY]
                    refine evR_calls (I := noFacts) (v := .tuple _) (ctxOf_ok libF3_ok (eq_none _)) (by kernel_rfl) Tryd.func8 rfl lps_nil (rdf_00000000101 s) rfl (all2_R (.cons rfl .nil)) rfl w (Nat.zero_le _) (pickL_ok ?_ _)
                    repeat' (first | exact cd_nil | refine cd_cons ?_ ?_)
                    all_goals first | with_reducible assumption | with_reducible rfl | decide | exact f0


              · have k5 : (!decide ((0 : Int) ≤ vaV (cutC s sl_))) = true := by rw [decide_eq_false g2]; rfl
                have hE : rE s = 2 := by
                  unfold rE
                  simp_all
                  try (intros; omega)
                have hX : rX s = 0 := by unfold rX; rw [hE]; rfl
                have hY : rY s = 0 := by unfold rY; rw [hE]; rfl
                rw [hE, hX, hY]
                refine evR_calls (I := noFacts) (v := .tuple _) (ctxOf_ok libF3_ok (eq_none _)) (by kernel_rfl) Tryd.func8 rfl lps_nil (rdf_0000001 s) rfl (all2_R (.cons rfl .nil)) rfl w (Nat.zero_le _) (pickL_ok ?_ _)
                repeat' (first | exact cd_nil | refine cd_cons ?_ ?_)
                all_goals first | with_reducible assumption | with_reducible rfl | decide | exact f0

            · have k4 : (!decide ((0 : Int) ≤ vaV (rA s))) = true := by rw [decide_eq_false g1]; rfl
              have hE : rE s = 2 := by
                unfold rE
                simp_all
                try (intros; omega)
              have hX : rX s = 0 := by unfold rX; rw [hE]; rfl
              have hY : rY s = 0 := by unfold rY; rw [hE]; rfl
              rw [hE, hX, hY]
              refine evR_calls (I := noFacts) (v := .tuple _) (ctxOf_ok libF3_ok (eq_none _)) (by kernel_rfl) Tryd.func8 rfl lps_nil (rdf_000001 s) rfl (all2_R (.cons rfl .nil)) rfl w (Nat.zero_le _) (pickL_ok ?_ _)
              repeat' (first | exact cd_nil | refine cd_cons ?_ ?_)
              all_goals first | with_reducible assumption | with_reducible rfl | decide | exact f0


end
end Go.Proofs.YtocheeocnbfbiaaDoor.AtFt

