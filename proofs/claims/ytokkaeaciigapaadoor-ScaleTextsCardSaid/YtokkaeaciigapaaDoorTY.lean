/-
  The loop of the reference's CivilRead.
  Conditions: those of each theorem.
-/
import Derived.Test.YtokkaeaciigapaaDoorSZ
import Derived.Test.YtokkaeaciigapaaDoorNX
set_option linter.unusedVariables false
set_option linter.unusedSimpArgs false
namespace Go.Proofs.YtokkaeaciigapaaDoor.AtSx
open Ev Go.RowKit Sc RL Wd
open Go.Proofs.YtokkaeaciigapaaDoor
variable {F : Type}
noncomputable section

theorem seq_at {s : ByteArray} {j : Nat} (hj : j < 23) (hl : sLen s = 23) (c : UInt8) : sEq (sSub s (j : Int) (IntKind.i64.wrap ((j : Int) + 1))) ⟨#[c]⟩ = decide (sAt s (j : Int) = (c.toNat : Int)) := by
  have hlen : s.data.toList.length = 23 := by rw [len_L] at hl; omega
  have e : IntKind.i64.wrap ((j : Int) + 1) = ((j + 1 : Nat) : Int) := IntWalk.i64_in _ (by omega)
  rw [e, Bool.eq_iff_iff, sEq_iff, decide_eq_true_eq, at_L s j (by omega)]
  have hL : (sSub s (j : Int) ((j + 1 : Nat) : Int)).data.toList = [s.data.toList[j]'(by omega)] := by
    rw [sub_L, show j + 1 - j = 1 by omega, List.drop_eq_getElem_cons (by omega)]
    rfl
  constructor
  · intro h
    rw [h] at hL
    have : [c] = [s.data.toList[j]'(by omega)] := hL
    rw [← List.head_eq_of_cons_eq this]
  · intro h
    refine ba_eq ?_
    rw [hL]
    have : s.data.toList[j]'(by omega) = c := UInt8.toNat_inj.1 (by omega)
    rw [this]
set_option maxRecDepth 100000 in
theorem lc_111100 (s : ByteArray) (n : Int) (i : Int) (rest : List (Nat × AV Nm)) : evView (ctxOf Tryd.prog numI (fun _ => false) []) 81 (false :: [false, true, false, true, true]) (loopAt (bodyOf Tryd.f7) [false, true, false, true, true]) ([(14, (.w (.one (.int .i64 n)))), (15, (.w (.one (.int .i64 i))))] ++ (ptrN 0 [1, 2] ++ rest)) [⟨9, [.lit (.string s)]⟩, ⟨23, [.int .i64 0, .int .i64 0, .int .i64 0, .int .i64 0, .int .i64 0, .int .i64 0, .int .i64 0]⟩] 2 [14, 15, 1, 2] [true, true, true, true, false, false] = some ((Ex.normal, [AV.w (AW.one (AC.int IntKind.i64 n)), AV.w (AW.one (AC.int IntKind.i64 (IntKind.i64.wrap (i + 1)))), AV.w (AW.one (AC.ptr 0 0)), AV.w (AW.one (AC.ptr 1 0))], [{ ty := 9, cs := [AC.lit (Value.string s)] }, { ty := 23, cs := [AC.int IntKind.i64 0, AC.int IntKind.i64 0, AC.int IntKind.i64 0, AC.int IntKind.i64 0, AC.int IntKind.i64 0, AC.int IntKind.i64 0, AC.int IntKind.i64 0] }]), (pickL [(decide (i < n), true), (i == 4, true), (!sEq (⟨#[45]⟩ : ByteArray) (⟨#[]⟩ : ByteArray), true), (decide ((0 : Int) ≤ i), true), (decide (i ≤ IntKind.i64.wrap (i + 1)), true), (decide (IntKind.i64.wrap (i + 1) ≤ sLen s), true), (!sEq (sSub s i (IntKind.i64.wrap (i + 1))) (⟨#[45]⟩ : ByteArray), false), (sEq (⟨#[45]⟩ : ByteArray) (⟨#[]⟩ : ByteArray), false), (false, false)] [0, 1, 1, 2, 2, 2, 2, 2, 3, 4, 5, 2, 2, 2, 6, 6, 6, 7, 7, 7, 7, 7, 7, 6, 7, 6, 8])) := by kernel_rfl
set_option maxRecDepth 100000 in
theorem lc_101100 (s : ByteArray) (n : Int) (i : Int) (rest : List (Nat × AV Nm)) : evView (ctxOf Tryd.prog numI (fun _ => false) []) 81 (false :: [false, true, false, true, true]) (loopAt (bodyOf Tryd.f7) [false, true, false, true, true]) ([(14, (.w (.one (.int .i64 n)))), (15, (.w (.one (.int .i64 i))))] ++ (ptrN 0 [1, 2] ++ rest)) [⟨9, [.lit (.string s)]⟩, ⟨23, [.int .i64 0, .int .i64 0, .int .i64 0, .int .i64 0, .int .i64 0, .int .i64 0, .int .i64 0]⟩] 2 [14, 15, 1, 2] [true, false, true, true, false, false] = some ((Ex.normal, [AV.w (AW.one (AC.int IntKind.i64 n)), AV.w (AW.one (AC.int IntKind.i64 (IntKind.i64.wrap (i + 1)))), AV.w (AW.one (AC.ptr 0 0)), AV.w (AW.one (AC.ptr 1 0))], [{ ty := 9, cs := [AC.lit (Value.string s)] }, { ty := 23, cs := [AC.int IntKind.i64 0, AC.int IntKind.i64 0, AC.int IntKind.i64 0, AC.int IntKind.i64 0, AC.int IntKind.i64 0, AC.int IntKind.i64 0, AC.int IntKind.i64 0] }]), (pickL [(decide (i < n), true), (i == 4, false), (i == 7, true), (!sEq (⟨#[45]⟩ : ByteArray) (⟨#[]⟩ : ByteArray), true), (decide ((0 : Int) ≤ i), true), (decide (i ≤ IntKind.i64.wrap (i + 1)), true), (decide (IntKind.i64.wrap (i + 1) ≤ sLen s), true), (!sEq (sSub s i (IntKind.i64.wrap (i + 1))) (⟨#[45]⟩ : ByteArray), false), (sEq (⟨#[45]⟩ : ByteArray) (⟨#[]⟩ : ByteArray), false), (false, false)] [0, 1, 2, 3, 3, 3, 3, 3, 4, 5, 6, 3, 3, 3, 7, 7, 7, 8, 8, 8, 8, 8, 8, 7, 8, 7, 9])) := by kernel_rfl
set_option maxRecDepth 100000 in
theorem lc_1001100 (s : ByteArray) (n : Int) (i : Int) (rest : List (Nat × AV Nm)) : evView (ctxOf Tryd.prog numI (fun _ => false) []) 81 (false :: [false, true, false, true, true]) (loopAt (bodyOf Tryd.f7) [false, true, false, true, true]) ([(14, (.w (.one (.int .i64 n)))), (15, (.w (.one (.int .i64 i))))] ++ (ptrN 0 [1, 2] ++ rest)) [⟨9, [.lit (.string s)]⟩, ⟨23, [.int .i64 0, .int .i64 0, .int .i64 0, .int .i64 0, .int .i64 0, .int .i64 0, .int .i64 0]⟩] 2 [14, 15, 1, 2] [true, false, false, true, true, false, false] = some ((Ex.normal, [AV.w (AW.one (AC.int IntKind.i64 n)), AV.w (AW.one (AC.int IntKind.i64 (IntKind.i64.wrap (i + 1)))), AV.w (AW.one (AC.ptr 0 0)), AV.w (AW.one (AC.ptr 1 0))], [{ ty := 9, cs := [AC.lit (Value.string s)] }, { ty := 23, cs := [AC.int IntKind.i64 0, AC.int IntKind.i64 0, AC.int IntKind.i64 0, AC.int IntKind.i64 0, AC.int IntKind.i64 0, AC.int IntKind.i64 0, AC.int IntKind.i64 0] }]), (pickL [(decide (i < n), true), (i == 4, false), (i == 7, false), (i == 10, true), (!sEq (⟨#[84]⟩ : ByteArray) (⟨#[]⟩ : ByteArray), true), (decide ((0 : Int) ≤ i), true), (decide (i ≤ IntKind.i64.wrap (i + 1)), true), (decide (IntKind.i64.wrap (i + 1) ≤ sLen s), true), (!sEq (sSub s i (IntKind.i64.wrap (i + 1))) (⟨#[84]⟩ : ByteArray), false), (sEq (⟨#[84]⟩ : ByteArray) (⟨#[]⟩ : ByteArray), false), (false, false)] [0, 1, 2, 3, 4, 4, 4, 4, 4, 5, 6, 7, 4, 4, 4, 8, 8, 8, 9, 9, 9, 9, 9, 9, 8, 9, 8, 10])) := by kernel_rfl
set_option maxRecDepth 100000 in
theorem lc_100011100 (s : ByteArray) (n : Int) (i : Int) (rest : List (Nat × AV Nm)) : evView (ctxOf Tryd.prog numI (fun _ => false) []) 81 (false :: [false, true, false, true, true]) (loopAt (bodyOf Tryd.f7) [false, true, false, true, true]) ([(14, (.w (.one (.int .i64 n)))), (15, (.w (.one (.int .i64 i))))] ++ (ptrN 0 [1, 2] ++ rest)) [⟨9, [.lit (.string s)]⟩, ⟨23, [.int .i64 0, .int .i64 0, .int .i64 0, .int .i64 0, .int .i64 0, .int .i64 0, .int .i64 0]⟩] 2 [14, 15, 1, 2] [true, false, false, false, true, true, true, false, false] = some ((Ex.normal, [AV.w (AW.one (AC.int IntKind.i64 n)), AV.w (AW.one (AC.int IntKind.i64 (IntKind.i64.wrap (i + 1)))), AV.w (AW.one (AC.ptr 0 0)), AV.w (AW.one (AC.ptr 1 0))], [{ ty := 9, cs := [AC.lit (Value.string s)] }, { ty := 23, cs := [AC.int IntKind.i64 0, AC.int IntKind.i64 0, AC.int IntKind.i64 0, AC.int IntKind.i64 0, AC.int IntKind.i64 0, AC.int IntKind.i64 0, AC.int IntKind.i64 0] }]), (pickL [(decide (i < n), true), (i == 4, false), (i == 7, false), (i == 10, false), (i == 13, true), (!sEq (⟨#[58]⟩ : ByteArray) (⟨#[]⟩ : ByteArray), true), (decide ((0 : Int) ≤ i), true), (decide (i ≤ IntKind.i64.wrap (i + 1)), true), (decide (IntKind.i64.wrap (i + 1) ≤ sLen s), true), (!sEq (sSub s i (IntKind.i64.wrap (i + 1))) (⟨#[58]⟩ : ByteArray), false), (sEq (⟨#[58]⟩ : ByteArray) (⟨#[]⟩ : ByteArray), false), (false, false)] [0, 1, 2, 3, 4, 4, 5, 5, 5, 5, 5, 6, 7, 8, 5, 5, 5, 9, 9, 9, 10, 10, 10, 10, 10, 10, 9, 10, 9, 11])) := by kernel_rfl
set_option maxRecDepth 100000 in
theorem lc_100001100 (s : ByteArray) (n : Int) (i : Int) (rest : List (Nat × AV Nm)) : evView (ctxOf Tryd.prog numI (fun _ => false) []) 81 (false :: [false, true, false, true, true]) (loopAt (bodyOf Tryd.f7) [false, true, false, true, true]) ([(14, (.w (.one (.int .i64 n)))), (15, (.w (.one (.int .i64 i))))] ++ (ptrN 0 [1, 2] ++ rest)) [⟨9, [.lit (.string s)]⟩, ⟨23, [.int .i64 0, .int .i64 0, .int .i64 0, .int .i64 0, .int .i64 0, .int .i64 0, .int .i64 0]⟩] 2 [14, 15, 1, 2] [true, false, false, false, false, true, true, false, false] = some ((Ex.normal, [AV.w (AW.one (AC.int IntKind.i64 n)), AV.w (AW.one (AC.int IntKind.i64 (IntKind.i64.wrap (i + 1)))), AV.w (AW.one (AC.ptr 0 0)), AV.w (AW.one (AC.ptr 1 0))], [{ ty := 9, cs := [AC.lit (Value.string s)] }, { ty := 23, cs := [AC.int IntKind.i64 0, AC.int IntKind.i64 0, AC.int IntKind.i64 0, AC.int IntKind.i64 0, AC.int IntKind.i64 0, AC.int IntKind.i64 0, AC.int IntKind.i64 0] }]), (pickL [(decide (i < n), true), (i == 4, false), (i == 7, false), (i == 10, false), (i == 13, false), (i == 16, true), (!sEq (⟨#[58]⟩ : ByteArray) (⟨#[]⟩ : ByteArray), true), (decide ((0 : Int) ≤ i), true), (decide (i ≤ IntKind.i64.wrap (i + 1)), true), (decide (IntKind.i64.wrap (i + 1) ≤ sLen s), true), (!sEq (sSub s i (IntKind.i64.wrap (i + 1))) (⟨#[58]⟩ : ByteArray), false), (sEq (⟨#[58]⟩ : ByteArray) (⟨#[]⟩ : ByteArray), false), (false, false)] [0, 1, 2, 3, 4, 5, 6, 6, 6, 6, 6, 7, 8, 9, 6, 6, 6, 10, 10, 10, 11, 11, 11, 11, 11, 11, 10, 11, 10, 12])) := by kernel_rfl
set_option maxRecDepth 100000 in
theorem lc_1000001100 (s : ByteArray) (n : Int) (i : Int) (rest : List (Nat × AV Nm)) : evView (ctxOf Tryd.prog numI (fun _ => false) []) 81 (false :: [false, true, false, true, true]) (loopAt (bodyOf Tryd.f7) [false, true, false, true, true]) ([(14, (.w (.one (.int .i64 n)))), (15, (.w (.one (.int .i64 i))))] ++ (ptrN 0 [1, 2] ++ rest)) [⟨9, [.lit (.string s)]⟩, ⟨23, [.int .i64 0, .int .i64 0, .int .i64 0, .int .i64 0, .int .i64 0, .int .i64 0, .int .i64 0]⟩] 2 [14, 15, 1, 2] [true, false, false, false, false, false, true, true, false, false] = some ((Ex.normal, [AV.w (AW.one (AC.int IntKind.i64 n)), AV.w (AW.one (AC.int IntKind.i64 (IntKind.i64.wrap (i + 1)))), AV.w (AW.one (AC.ptr 0 0)), AV.w (AW.one (AC.ptr 1 0))], [{ ty := 9, cs := [AC.lit (Value.string s)] }, { ty := 23, cs := [AC.int IntKind.i64 0, AC.int IntKind.i64 0, AC.int IntKind.i64 0, AC.int IntKind.i64 0, AC.int IntKind.i64 0, AC.int IntKind.i64 0, AC.int IntKind.i64 0] }]), (pickL [(decide (i < n), true), (i == 4, false), (i == 7, false), (i == 10, false), (i == 13, false), (i == 16, false), (i == 19, true), (!sEq (⟨#[46]⟩ : ByteArray) (⟨#[]⟩ : ByteArray), true), (decide ((0 : Int) ≤ i), true), (decide (i ≤ IntKind.i64.wrap (i + 1)), true), (decide (IntKind.i64.wrap (i + 1) ≤ sLen s), true), (!sEq (sSub s i (IntKind.i64.wrap (i + 1))) (⟨#[46]⟩ : ByteArray), false), (sEq (⟨#[46]⟩ : ByteArray) (⟨#[]⟩ : ByteArray), false), (false, false)] [0, 1, 2, 3, 4, 5, 6, 7, 7, 7, 7, 7, 8, 9, 10, 7, 7, 7, 11, 11, 11, 12, 12, 12, 12, 12, 12, 11, 12, 11, 13])) := by kernel_rfl
set_option maxRecDepth 100000 in
theorem lc_10000000100 (s : ByteArray) (n : Int) (i : Int) (rest : List (Nat × AV Nm)) : evView (ctxOf Tryd.prog numI (fun _ => false) []) 81 (false :: [false, true, false, true, true]) (loopAt (bodyOf Tryd.f7) [false, true, false, true, true]) ([(14, (.w (.one (.int .i64 n)))), (15, (.w (.one (.int .i64 i))))] ++ (ptrN 0 [1, 2] ++ rest)) [⟨9, [.lit (.string s)]⟩, ⟨23, [.int .i64 0, .int .i64 0, .int .i64 0, .int .i64 0, .int .i64 0, .int .i64 0, .int .i64 0]⟩] 2 [14, 15, 1, 2] [true, false, false, false, false, false, false, false, true, false, false] = some ((Ex.normal, [AV.w (AW.one (AC.int IntKind.i64 n)), AV.w (AW.one (AC.int IntKind.i64 (IntKind.i64.wrap (i + 1)))), AV.w (AW.one (AC.ptr 0 0)), AV.w (AW.one (AC.ptr 1 0))], [{ ty := 9, cs := [AC.lit (Value.string s)] }, { ty := 23, cs := [AC.int IntKind.i64 0, AC.int IntKind.i64 0, AC.int IntKind.i64 0, AC.int IntKind.i64 0, AC.int IntKind.i64 0, AC.int IntKind.i64 0, AC.int IntKind.i64 0] }]), (pickL [(decide (i < n), true), (i == 4, false), (i == 7, false), (i == 10, false), (i == 13, false), (i == 16, false), (i == 19, false), (!sEq (⟨#[]⟩ : ByteArray) (⟨#[]⟩ : ByteArray), false), (false, false), (sEq (⟨#[]⟩ : ByteArray) (⟨#[]⟩ : ByteArray), true), (decide ((0 : Int) ≤ i), true), (decide (i < sLen s), true), (decide (sAt s i > 57), false), (decide (sAt s i < 48), false)] [0, 1, 2, 3, 4, 5, 6, 7, 7, 7, 7, 7, 7, 7, 7, 8, 8, 8, 9, 9, 9, 10, 11, 9, 9, 12, 12, 12, 10, 11, 12, 9, 12, 8, 9, 8, 13])) := by kernel_rfl
set_option maxRecDepth 100000 in
theorem lc_0 (s : ByteArray) (n : Int) (i : Int) (rest : List (Nat × AV Nm)) : evView (ctxOf Tryd.prog numI (fun _ => false) []) 81 (false :: [false, true, false, true, true]) (loopAt (bodyOf Tryd.f7) [false, true, false, true, true]) ([(14, (.w (.one (.int .i64 n)))), (15, (.w (.one (.int .i64 i))))] ++ (ptrN 0 [1, 2] ++ rest)) [⟨9, [.lit (.string s)]⟩, ⟨23, [.int .i64 0, .int .i64 0, .int .i64 0, .int .i64 0, .int .i64 0, .int .i64 0, .int .i64 0]⟩] 2 [14, 15, 1, 2] [false] = some ((Ex.exit 0, [AV.w (AW.one (AC.int IntKind.i64 n)), AV.w (AW.one (AC.int IntKind.i64 i)), AV.w (AW.one (AC.ptr 0 0)), AV.w (AW.one (AC.ptr 1 0))], [{ ty := 9, cs := [AC.lit (Value.string s)] }, { ty := 23, cs := [AC.int IntKind.i64 0, AC.int IntKind.i64 0, AC.int IntKind.i64 0, AC.int IntKind.i64 0, AC.int IntKind.i64 0, AC.int IntKind.i64 0, AC.int IntKind.i64 0] }]), (pickL [(decide (i < n), false)] [0])) := by kernel_rfl
set_option maxRecDepth 100000 in
theorem lcr_11111 (s : ByteArray) (n : Int) (i : Int) (rest : List (Nat × AV Nm)) : evView (ctxOf Tryd.prog numI (fun _ => false) []) 81 (false :: [false, true, false, true, true]) (loopAt (bodyOf Tryd.f7) [false, true, false, true, true]) ([(14, (.w (.one (.int .i64 n)))), (15, (.w (.one (.int .i64 i))))] ++ (ptrN 0 [1, 2] ++ rest)) [⟨9, [.lit (.string s)]⟩, ⟨23, [.int .i64 0, .int .i64 0, .int .i64 0, .int .i64 0, .int .i64 0, .int .i64 0, .int .i64 0]⟩] 2 [3, 1, 2] [true, true, true, true, true] = some ((Ex.ret, [AV.w (AW.one (AC.int IntKind.i64 5)), AV.w (AW.one (AC.ptr 0 0)), AV.w (AW.one (AC.ptr 1 0))], [{ ty := 9, cs := [AC.lit (Value.string s)] }, { ty := 23, cs := [AC.int IntKind.i64 0, AC.int IntKind.i64 0, AC.int IntKind.i64 0, AC.int IntKind.i64 0, AC.int IntKind.i64 0, AC.int IntKind.i64 0, AC.int IntKind.i64 0] }]), (pickL [(decide (i < n), true), (i == 4, true), (!sEq (⟨#[45]⟩ : ByteArray) (⟨#[]⟩ : ByteArray), true), (decide ((0 : Int) ≤ i), true), (decide (i ≤ IntKind.i64.wrap (i + 1)), true), (decide (IntKind.i64.wrap (i + 1) ≤ sLen s), true), (!sEq (sSub s i (IntKind.i64.wrap (i + 1))) (⟨#[45]⟩ : ByteArray), true), (true, true)] [0, 1, 1, 2, 2, 2, 2, 2, 3, 4, 5, 2, 2, 2, 6, 6, 6, 6, 6, 7])) := by kernel_rfl
set_option maxRecDepth 100000 in
theorem lcr_10111 (s : ByteArray) (n : Int) (i : Int) (rest : List (Nat × AV Nm)) : evView (ctxOf Tryd.prog numI (fun _ => false) []) 81 (false :: [false, true, false, true, true]) (loopAt (bodyOf Tryd.f7) [false, true, false, true, true]) ([(14, (.w (.one (.int .i64 n)))), (15, (.w (.one (.int .i64 i))))] ++ (ptrN 0 [1, 2] ++ rest)) [⟨9, [.lit (.string s)]⟩, ⟨23, [.int .i64 0, .int .i64 0, .int .i64 0, .int .i64 0, .int .i64 0, .int .i64 0, .int .i64 0]⟩] 2 [3, 1, 2] [true, false, true, true, true] = some ((Ex.ret, [AV.w (AW.one (AC.int IntKind.i64 5)), AV.w (AW.one (AC.ptr 0 0)), AV.w (AW.one (AC.ptr 1 0))], [{ ty := 9, cs := [AC.lit (Value.string s)] }, { ty := 23, cs := [AC.int IntKind.i64 0, AC.int IntKind.i64 0, AC.int IntKind.i64 0, AC.int IntKind.i64 0, AC.int IntKind.i64 0, AC.int IntKind.i64 0, AC.int IntKind.i64 0] }]), (pickL [(decide (i < n), true), (i == 4, false), (i == 7, true), (!sEq (⟨#[45]⟩ : ByteArray) (⟨#[]⟩ : ByteArray), true), (decide ((0 : Int) ≤ i), true), (decide (i ≤ IntKind.i64.wrap (i + 1)), true), (decide (IntKind.i64.wrap (i + 1) ≤ sLen s), true), (!sEq (sSub s i (IntKind.i64.wrap (i + 1))) (⟨#[45]⟩ : ByteArray), true), (true, true)] [0, 1, 2, 3, 3, 3, 3, 3, 4, 5, 6, 3, 3, 3, 7, 7, 7, 7, 7, 8])) := by kernel_rfl
set_option maxRecDepth 100000 in
theorem lcr_100111 (s : ByteArray) (n : Int) (i : Int) (rest : List (Nat × AV Nm)) : evView (ctxOf Tryd.prog numI (fun _ => false) []) 81 (false :: [false, true, false, true, true]) (loopAt (bodyOf Tryd.f7) [false, true, false, true, true]) ([(14, (.w (.one (.int .i64 n)))), (15, (.w (.one (.int .i64 i))))] ++ (ptrN 0 [1, 2] ++ rest)) [⟨9, [.lit (.string s)]⟩, ⟨23, [.int .i64 0, .int .i64 0, .int .i64 0, .int .i64 0, .int .i64 0, .int .i64 0, .int .i64 0]⟩] 2 [3, 1, 2] [true, false, false, true, true, true] = some ((Ex.ret, [AV.w (AW.one (AC.int IntKind.i64 5)), AV.w (AW.one (AC.ptr 0 0)), AV.w (AW.one (AC.ptr 1 0))], [{ ty := 9, cs := [AC.lit (Value.string s)] }, { ty := 23, cs := [AC.int IntKind.i64 0, AC.int IntKind.i64 0, AC.int IntKind.i64 0, AC.int IntKind.i64 0, AC.int IntKind.i64 0, AC.int IntKind.i64 0, AC.int IntKind.i64 0] }]), (pickL [(decide (i < n), true), (i == 4, false), (i == 7, false), (i == 10, true), (!sEq (⟨#[84]⟩ : ByteArray) (⟨#[]⟩ : ByteArray), true), (decide ((0 : Int) ≤ i), true), (decide (i ≤ IntKind.i64.wrap (i + 1)), true), (decide (IntKind.i64.wrap (i + 1) ≤ sLen s), true), (!sEq (sSub s i (IntKind.i64.wrap (i + 1))) (⟨#[84]⟩ : ByteArray), true), (true, true)] [0, 1, 2, 3, 4, 4, 4, 4, 4, 5, 6, 7, 4, 4, 4, 8, 8, 8, 8, 8, 9])) := by kernel_rfl
set_option maxRecDepth 100000 in
theorem lcr_10001111 (s : ByteArray) (n : Int) (i : Int) (rest : List (Nat × AV Nm)) : evView (ctxOf Tryd.prog numI (fun _ => false) []) 81 (false :: [false, true, false, true, true]) (loopAt (bodyOf Tryd.f7) [false, true, false, true, true]) ([(14, (.w (.one (.int .i64 n)))), (15, (.w (.one (.int .i64 i))))] ++ (ptrN 0 [1, 2] ++ rest)) [⟨9, [.lit (.string s)]⟩, ⟨23, [.int .i64 0, .int .i64 0, .int .i64 0, .int .i64 0, .int .i64 0, .int .i64 0, .int .i64 0]⟩] 2 [3, 1, 2] [true, false, false, false, true, true, true, true] = some ((Ex.ret, [AV.w (AW.one (AC.int IntKind.i64 5)), AV.w (AW.one (AC.ptr 0 0)), AV.w (AW.one (AC.ptr 1 0))], [{ ty := 9, cs := [AC.lit (Value.string s)] }, { ty := 23, cs := [AC.int IntKind.i64 0, AC.int IntKind.i64 0, AC.int IntKind.i64 0, AC.int IntKind.i64 0, AC.int IntKind.i64 0, AC.int IntKind.i64 0, AC.int IntKind.i64 0] }]), (pickL [(decide (i < n), true), (i == 4, false), (i == 7, false), (i == 10, false), (i == 13, true), (!sEq (⟨#[58]⟩ : ByteArray) (⟨#[]⟩ : ByteArray), true), (decide ((0 : Int) ≤ i), true), (decide (i ≤ IntKind.i64.wrap (i + 1)), true), (decide (IntKind.i64.wrap (i + 1) ≤ sLen s), true), (!sEq (sSub s i (IntKind.i64.wrap (i + 1))) (⟨#[58]⟩ : ByteArray), true), (true, true)] [0, 1, 2, 3, 4, 4, 5, 5, 5, 5, 5, 6, 7, 8, 5, 5, 5, 9, 9, 9, 9, 9, 10])) := by kernel_rfl
set_option maxRecDepth 100000 in
theorem lcr_10000111 (s : ByteArray) (n : Int) (i : Int) (rest : List (Nat × AV Nm)) : evView (ctxOf Tryd.prog numI (fun _ => false) []) 81 (false :: [false, true, false, true, true]) (loopAt (bodyOf Tryd.f7) [false, true, false, true, true]) ([(14, (.w (.one (.int .i64 n)))), (15, (.w (.one (.int .i64 i))))] ++ (ptrN 0 [1, 2] ++ rest)) [⟨9, [.lit (.string s)]⟩, ⟨23, [.int .i64 0, .int .i64 0, .int .i64 0, .int .i64 0, .int .i64 0, .int .i64 0, .int .i64 0]⟩] 2 [3, 1, 2] [true, false, false, false, false, true, true, true] = some ((Ex.ret, [AV.w (AW.one (AC.int IntKind.i64 5)), AV.w (AW.one (AC.ptr 0 0)), AV.w (AW.one (AC.ptr 1 0))], [{ ty := 9, cs := [AC.lit (Value.string s)] }, { ty := 23, cs := [AC.int IntKind.i64 0, AC.int IntKind.i64 0, AC.int IntKind.i64 0, AC.int IntKind.i64 0, AC.int IntKind.i64 0, AC.int IntKind.i64 0, AC.int IntKind.i64 0] }]), (pickL [(decide (i < n), true), (i == 4, false), (i == 7, false), (i == 10, false), (i == 13, false), (i == 16, true), (!sEq (⟨#[58]⟩ : ByteArray) (⟨#[]⟩ : ByteArray), true), (decide ((0 : Int) ≤ i), true), (decide (i ≤ IntKind.i64.wrap (i + 1)), true), (decide (IntKind.i64.wrap (i + 1) ≤ sLen s), true), (!sEq (sSub s i (IntKind.i64.wrap (i + 1))) (⟨#[58]⟩ : ByteArray), true), (true, true)] [0, 1, 2, 3, 4, 5, 6, 6, 6, 6, 6, 7, 8, 9, 6, 6, 6, 10, 10, 10, 10, 10, 11])) := by kernel_rfl
set_option maxRecDepth 100000 in
theorem lcr_100000111 (s : ByteArray) (n : Int) (i : Int) (rest : List (Nat × AV Nm)) : evView (ctxOf Tryd.prog numI (fun _ => false) []) 81 (false :: [false, true, false, true, true]) (loopAt (bodyOf Tryd.f7) [false, true, false, true, true]) ([(14, (.w (.one (.int .i64 n)))), (15, (.w (.one (.int .i64 i))))] ++ (ptrN 0 [1, 2] ++ rest)) [⟨9, [.lit (.string s)]⟩, ⟨23, [.int .i64 0, .int .i64 0, .int .i64 0, .int .i64 0, .int .i64 0, .int .i64 0, .int .i64 0]⟩] 2 [3, 1, 2] [true, false, false, false, false, false, true, true, true] = some ((Ex.ret, [AV.w (AW.one (AC.int IntKind.i64 5)), AV.w (AW.one (AC.ptr 0 0)), AV.w (AW.one (AC.ptr 1 0))], [{ ty := 9, cs := [AC.lit (Value.string s)] }, { ty := 23, cs := [AC.int IntKind.i64 0, AC.int IntKind.i64 0, AC.int IntKind.i64 0, AC.int IntKind.i64 0, AC.int IntKind.i64 0, AC.int IntKind.i64 0, AC.int IntKind.i64 0] }]), (pickL [(decide (i < n), true), (i == 4, false), (i == 7, false), (i == 10, false), (i == 13, false), (i == 16, false), (i == 19, true), (!sEq (⟨#[46]⟩ : ByteArray) (⟨#[]⟩ : ByteArray), true), (decide ((0 : Int) ≤ i), true), (decide (i ≤ IntKind.i64.wrap (i + 1)), true), (decide (IntKind.i64.wrap (i + 1) ≤ sLen s), true), (!sEq (sSub s i (IntKind.i64.wrap (i + 1))) (⟨#[46]⟩ : ByteArray), true), (true, true)] [0, 1, 2, 3, 4, 5, 6, 7, 7, 7, 7, 7, 8, 9, 10, 7, 7, 7, 11, 11, 11, 11, 11, 12])) := by kernel_rfl
set_option maxRecDepth 100000 in
theorem lcr_1000000011 (s : ByteArray) (n : Int) (i : Int) (rest : List (Nat × AV Nm)) : evView (ctxOf Tryd.prog numI (fun _ => false) []) 81 (false :: [false, true, false, true, true]) (loopAt (bodyOf Tryd.f7) [false, true, false, true, true]) ([(14, (.w (.one (.int .i64 n)))), (15, (.w (.one (.int .i64 i))))] ++ (ptrN 0 [1, 2] ++ rest)) [⟨9, [.lit (.string s)]⟩, ⟨23, [.int .i64 0, .int .i64 0, .int .i64 0, .int .i64 0, .int .i64 0, .int .i64 0, .int .i64 0]⟩] 2 [3, 1, 2] [true, false, false, false, false, false, false, false, true, true] = some ((Ex.ret, [AV.w (AW.one (AC.int IntKind.i64 5)), AV.w (AW.one (AC.ptr 0 0)), AV.w (AW.one (AC.ptr 1 0))], [{ ty := 9, cs := [AC.lit (Value.string s)] }, { ty := 23, cs := [AC.int IntKind.i64 0, AC.int IntKind.i64 0, AC.int IntKind.i64 0, AC.int IntKind.i64 0, AC.int IntKind.i64 0, AC.int IntKind.i64 0, AC.int IntKind.i64 0] }]), (pickL [(decide (i < n), true), (i == 4, false), (i == 7, false), (i == 10, false), (i == 13, false), (i == 16, false), (i == 19, false), (!sEq (⟨#[]⟩ : ByteArray) (⟨#[]⟩ : ByteArray), false), (false, false), (sEq (⟨#[]⟩ : ByteArray) (⟨#[]⟩ : ByteArray), true), (decide ((0 : Int) ≤ i), true), (decide (i < sLen s), true), (decide (sAt s i > 57), true), (true, true)] [0, 1, 2, 3, 4, 5, 6, 7, 7, 7, 7, 7, 7, 7, 7, 8, 8, 8, 9, 9, 9, 10, 11, 9, 9, 12, 12, 12, 12, 9, 12, 8, 9, 8, 13])) := by kernel_rfl
set_option maxRecDepth 100000 in
theorem lcr_10000000101 (s : ByteArray) (n : Int) (i : Int) (rest : List (Nat × AV Nm)) : evView (ctxOf Tryd.prog numI (fun _ => false) []) 81 (false :: [false, true, false, true, true]) (loopAt (bodyOf Tryd.f7) [false, true, false, true, true]) ([(14, (.w (.one (.int .i64 n)))), (15, (.w (.one (.int .i64 i))))] ++ (ptrN 0 [1, 2] ++ rest)) [⟨9, [.lit (.string s)]⟩, ⟨23, [.int .i64 0, .int .i64 0, .int .i64 0, .int .i64 0, .int .i64 0, .int .i64 0, .int .i64 0]⟩] 2 [3, 1, 2] [true, false, false, false, false, false, false, false, true, false, true] = some ((Ex.ret, [AV.w (AW.one (AC.int IntKind.i64 5)), AV.w (AW.one (AC.ptr 0 0)), AV.w (AW.one (AC.ptr 1 0))], [{ ty := 9, cs := [AC.lit (Value.string s)] }, { ty := 23, cs := [AC.int IntKind.i64 0, AC.int IntKind.i64 0, AC.int IntKind.i64 0, AC.int IntKind.i64 0, AC.int IntKind.i64 0, AC.int IntKind.i64 0, AC.int IntKind.i64 0] }]), (pickL [(decide (i < n), true), (i == 4, false), (i == 7, false), (i == 10, false), (i == 13, false), (i == 16, false), (i == 19, false), (!sEq (⟨#[]⟩ : ByteArray) (⟨#[]⟩ : ByteArray), false), (false, false), (sEq (⟨#[]⟩ : ByteArray) (⟨#[]⟩ : ByteArray), true), (decide ((0 : Int) ≤ i), true), (decide (i < sLen s), true), (decide (sAt s i > 57), false), (decide (sAt s i < 48), true)] [0, 1, 2, 3, 4, 5, 6, 7, 7, 7, 7, 7, 7, 7, 7, 8, 8, 8, 9, 9, 9, 10, 11, 9, 9, 12, 12, 12, 10, 11, 12, 9, 12, 8, 9, 8, 13])) := by kernel_rfl
structure lcT where
  s : ByteArray
  n : Int
  i : Int
def lcP (s : ByteArray) (n : Int) (i : Int) : Prop := 0 ≤ i ∧ i ≤ n ∧ n = sLen s ∧ n = 23
instance (s : ByteArray) (n : Int) (i : Int) : Decidable (lcP s n i) := by unfold lcP; infer_instance
def lcTm (s : ByteArray) (n : Int) (i : Int) : List (Nat × AV Nm) := [(14, (.w (.one (.int .i64 n)))), (15, (.w (.one (.int .i64 i))))]
def lcS : LpSt lcT Nm where
  ps := [1, 2]
  tm := fun t => lcTm t.s t.n t.i
  hp := fun t => [⟨9, [.lit (.string t.s)]⟩, ⟨23, [.int .i64 0, .int .i64 0, .int .i64 0, .int .i64 0, .int .i64 0, .int .i64 0, .int .i64 0]⟩]
def lcNx (s : ByteArray) (n : Int) (i : Int) : Nxt lcT Nm := if i < n then (if okAt s i.toNat = true then .go ⟨s, n, i + 1⟩ else .out .ret [(3, .w (.one (.int .i64 5)))] [⟨9, [.lit (.string s)]⟩, ⟨23, [.int .i64 0, .int .i64 0, .int .i64 0, .int .i64 0, .int .i64 0, .int .i64 0, .int .i64 0]⟩]) else .out (.exit 0) (lcTm s n i) [⟨9, [.lit (.string s)]⟩, ⟨23, [.int .i64 0, .int .i64 0, .int .i64 0, .int .i64 0, .int .i64 0, .int .i64 0, .int .i64 0]⟩]
def lcStep (t : lcT) : Nxt lcT Nm := if lcP t.s t.n t.i then lcNx t.s t.n t.i else .bad
theorem lc_go {s : ByteArray} {n : Int} {i : Int} (h : lcP s n i) : lcStep ⟨s, n, i⟩ = lcNx s n i := if_pos h
set_option maxRecDepth 100000 in
set_option maxHeartbeats 4000000 in
theorem lc_round (t : lcT) (hb : (lcStep t).isBad = false) (rest : List (Nat × AV Nm)) : ∃ fuel path r, evC (ctxOf Tryd.prog numI (fun _ => false) []) fuel 81 (false :: [false, true, false, true, true]) (loopAt (bodyOf Tryd.f7) [false, true, false, true, true]) (lcS.tm t ++ (ptrN 0 lcS.ps ++ rest)) (numb 0 (lcS.hp t)) 2 path = some r ∧ (∀ p ∈ r.cd, p.1 = p.2) ∧ Gives lcS 2 r (lcStep t) := by
  obtain ⟨s, n, i⟩ := t
  by_cases ok : lcP s n i
  · rw [lc_go ok]
    clear hb
    unfold lcNx
    obtain ⟨h1, h2, rfl, h4⟩ := ok
    by_cases hlt : i < sLen s
    · have k0 : decide (i < sLen s) = true := decide_eq_true hlt
      have e1 : IntKind.i64.wrap (i + 1) = i + 1 := IntWalk.i64_in _ (by omega)
      rw [if_pos hlt]
      by_cases h4' : i = 4
      · subst h4'
        have q := seq_at (s := s) (j := 4) (by omega) h4 45
        have hE : okAt s (Int.toNat 4) = sEq (sSub s 4 (IntKind.i64.wrap (4 + 1))) ⟨#[45]⟩ := by rw [show ((4 : Int)) = ((4 : Nat) : Int) from rfl, q]; rfl
        rw [hE]
        have e2 : IntKind.i64.wrap (4 + 1) = 5 := rfl
        cases hs : sEq (sSub s 4 (IntKind.i64.wrap (4 + 1))) ⟨#[45]⟩ with
        | true =>
          rw [if_pos rfl]
          have L := lc_111100 s (sLen s) 4 rest
          refine round_go L (pickL_ok ?_ _) rfl rfl rfl rfl
          repeat' (first | exact cd_nil | refine cd_cons ?_ ?_)
          all_goals first | with_reducible rfl | with_reducible assumption | exact decide_eq_true (by omega) | (exact hs) | (rw [hs]; rfl) | decide +kernel
        | false =>
          rw [if_neg (by simp)]
          have L := lcr_11111 s (sLen s) 4 rest
          refine round_out L rfl (pickL_ok ?_ _) rfl rfl rfl
          repeat' (first | exact cd_nil | refine cd_cons ?_ ?_)
          all_goals first | with_reducible rfl | with_reducible assumption | exact decide_eq_true (by omega) | (exact hs) | (rw [hs]; rfl) | decide +kernel
      by_cases h7 : i = 7
      · subst h7
        have q := seq_at (s := s) (j := 7) (by omega) h4 45
        have hE : okAt s (Int.toNat 7) = sEq (sSub s 7 (IntKind.i64.wrap (7 + 1))) ⟨#[45]⟩ := by rw [show ((7 : Int)) = ((7 : Nat) : Int) from rfl, q]; rfl
        rw [hE]
        have e2 : IntKind.i64.wrap (7 + 1) = 8 := rfl
        cases hs : sEq (sSub s 7 (IntKind.i64.wrap (7 + 1))) ⟨#[45]⟩ with
        | true =>
          rw [if_pos rfl]
          have L := lc_101100 s (sLen s) 7 rest
          refine round_go L (pickL_ok ?_ _) rfl rfl rfl rfl
          repeat' (first | exact cd_nil | refine cd_cons ?_ ?_)
          all_goals first | with_reducible rfl | with_reducible assumption | exact decide_eq_true (by omega) | (exact hs) | (rw [hs]; rfl) | decide +kernel
        | false =>
          rw [if_neg (by simp)]
          have L := lcr_10111 s (sLen s) 7 rest
          refine round_out L rfl (pickL_ok ?_ _) rfl rfl rfl
          repeat' (first | exact cd_nil | refine cd_cons ?_ ?_)
          all_goals first | with_reducible rfl | with_reducible assumption | exact decide_eq_true (by omega) | (exact hs) | (rw [hs]; rfl) | decide +kernel
      by_cases h10 : i = 10
      · subst h10
        have q := seq_at (s := s) (j := 10) (by omega) h4 84
        have hE : okAt s (Int.toNat 10) = sEq (sSub s 10 (IntKind.i64.wrap (10 + 1))) ⟨#[84]⟩ := by rw [show ((10 : Int)) = ((10 : Nat) : Int) from rfl, q]; rfl
        rw [hE]
        have e2 : IntKind.i64.wrap (10 + 1) = 11 := rfl
        cases hs : sEq (sSub s 10 (IntKind.i64.wrap (10 + 1))) ⟨#[84]⟩ with
        | true =>
          rw [if_pos rfl]
          have L := lc_1001100 s (sLen s) 10 rest
          refine round_go L (pickL_ok ?_ _) rfl rfl rfl rfl
          repeat' (first | exact cd_nil | refine cd_cons ?_ ?_)
          all_goals first | with_reducible rfl | with_reducible assumption | exact decide_eq_true (by omega) | (exact hs) | (rw [hs]; rfl) | decide +kernel
        | false =>
          rw [if_neg (by simp)]
          have L := lcr_100111 s (sLen s) 10 rest
          refine round_out L rfl (pickL_ok ?_ _) rfl rfl rfl
          repeat' (first | exact cd_nil | refine cd_cons ?_ ?_)
          all_goals first | with_reducible rfl | with_reducible assumption | exact decide_eq_true (by omega) | (exact hs) | (rw [hs]; rfl) | decide +kernel
      by_cases h13 : i = 13
      · subst h13
        have q := seq_at (s := s) (j := 13) (by omega) h4 58
        have hE : okAt s (Int.toNat 13) = sEq (sSub s 13 (IntKind.i64.wrap (13 + 1))) ⟨#[58]⟩ := by rw [show ((13 : Int)) = ((13 : Nat) : Int) from rfl, q]; rfl
        rw [hE]
        have e2 : IntKind.i64.wrap (13 + 1) = 14 := rfl
        cases hs : sEq (sSub s 13 (IntKind.i64.wrap (13 + 1))) ⟨#[58]⟩ with
        | true =>
          rw [if_pos rfl]
          have L := lc_100011100 s (sLen s) 13 rest
          refine round_go L (pickL_ok ?_ _) rfl rfl rfl rfl
          repeat' (first | exact cd_nil | refine cd_cons ?_ ?_)
          all_goals first | with_reducible rfl | with_reducible assumption | exact decide_eq_true (by omega) | (exact hs) | (rw [hs]; rfl) | decide +kernel
        | false =>
          rw [if_neg (by simp)]
          have L := lcr_10001111 s (sLen s) 13 rest
          refine round_out L rfl (pickL_ok ?_ _) rfl rfl rfl
          repeat' (first | exact cd_nil | refine cd_cons ?_ ?_)
          all_goals first | with_reducible rfl | with_reducible assumption | exact decide_eq_true (by omega) | (exact hs) | (rw [hs]; rfl) | decide +kernel
      by_cases h16 : i = 16
      · subst h16
        have q := seq_at (s := s) (j := 16) (by omega) h4 58
        have hE : okAt s (Int.toNat 16) = sEq (sSub s 16 (IntKind.i64.wrap (16 + 1))) ⟨#[58]⟩ := by rw [show ((16 : Int)) = ((16 : Nat) : Int) from rfl, q]; rfl
        rw [hE]
        have e2 : IntKind.i64.wrap (16 + 1) = 17 := rfl
        cases hs : sEq (sSub s 16 (IntKind.i64.wrap (16 + 1))) ⟨#[58]⟩ with
        | true =>
          rw [if_pos rfl]
          have L := lc_100001100 s (sLen s) 16 rest
          refine round_go L (pickL_ok ?_ _) rfl rfl rfl rfl
          repeat' (first | exact cd_nil | refine cd_cons ?_ ?_)
          all_goals first | with_reducible rfl | with_reducible assumption | exact decide_eq_true (by omega) | (exact hs) | (rw [hs]; rfl) | decide +kernel
        | false =>
          rw [if_neg (by simp)]
          have L := lcr_10000111 s (sLen s) 16 rest
          refine round_out L rfl (pickL_ok ?_ _) rfl rfl rfl
          repeat' (first | exact cd_nil | refine cd_cons ?_ ?_)
          all_goals first | with_reducible rfl | with_reducible assumption | exact decide_eq_true (by omega) | (exact hs) | (rw [hs]; rfl) | decide +kernel
      by_cases h19 : i = 19
      · subst h19
        have q := seq_at (s := s) (j := 19) (by omega) h4 46
        have hE : okAt s (Int.toNat 19) = sEq (sSub s 19 (IntKind.i64.wrap (19 + 1))) ⟨#[46]⟩ := by rw [show ((19 : Int)) = ((19 : Nat) : Int) from rfl, q]; rfl
        rw [hE]
        have e2 : IntKind.i64.wrap (19 + 1) = 20 := rfl
        cases hs : sEq (sSub s 19 (IntKind.i64.wrap (19 + 1))) ⟨#[46]⟩ with
        | true =>
          rw [if_pos rfl]
          have L := lc_1000001100 s (sLen s) 19 rest
          refine round_go L (pickL_ok ?_ _) rfl rfl rfl rfl
          repeat' (first | exact cd_nil | refine cd_cons ?_ ?_)
          all_goals first | with_reducible rfl | with_reducible assumption | exact decide_eq_true (by omega) | (exact hs) | (rw [hs]; rfl) | decide +kernel
        | false =>
          rw [if_neg (by simp)]
          have L := lcr_100000111 s (sLen s) 19 rest
          refine round_out L rfl (pickL_ok ?_ _) rfl rfl rfl
          repeat' (first | exact cd_nil | refine cd_cons ?_ ?_)
          all_goals first | with_reducible rfl | with_reducible assumption | exact decide_eq_true (by omega) | (exact hs) | (rw [hs]; rfl) | decide +kernel
      obtain ⟨j, rfl⟩ := Int.eq_ofNat_of_zero_le h1
      have hc : cls j = 48 := cls48 (by omega) (by omega) (by omega) (by omega) (by omega) (by omega)
      have hE : okAt s (Int.toNat (j : Int)) = (decide (48 ≤ sAt s (j : Int)) && decide (sAt s (j : Int) ≤ 57)) := by rw [Int.toNat_natCast]; unfold okAt; rw [if_pos hc]
      have hs : True := trivial
      have n4 : ((j : Int) == 4) = false := by simpa using h4'
      have n7 : ((j : Int) == 7) = false := by simpa using h7
      have n10 : ((j : Int) == 10) = false := by simpa using h10
      have n13 : ((j : Int) == 13) = false := by simpa using h13
      have n16 : ((j : Int) == 16) = false := by simpa using h16
      have n19 : ((j : Int) == 19) = false := by simpa using h19
      rw [hE]
      by_cases a1 : 57 < sAt s (j : Int)
      · rw [decide_eq_false (show ¬ sAt s (j : Int) ≤ 57 by omega), Bool.and_false, if_neg (by simp)]
        have L := lcr_1000000011 s (sLen s) (j : Int) rest
        refine round_out L rfl (pickL_ok ?_ _) rfl rfl rfl
        repeat' (first | exact cd_nil | refine cd_cons ?_ ?_)
        all_goals first | with_reducible rfl | with_reducible assumption | exact decide_eq_true (by omega) | (exact hs) | (rw [hs]; rfl) | decide +kernel | exact decide_eq_false (by omega)
      · by_cases a2 : sAt s (j : Int) < 48
        · rw [decide_eq_false (show ¬ 48 ≤ sAt s (j : Int) by omega), Bool.false_and, if_neg (by simp)]
          have L := lcr_10000000101 s (sLen s) (j : Int) rest
          refine round_out L rfl (pickL_ok ?_ _) rfl rfl rfl
          repeat' (first | exact cd_nil | refine cd_cons ?_ ?_)
          all_goals first | with_reducible rfl | with_reducible assumption | exact decide_eq_true (by omega) | (exact hs) | (rw [hs]; rfl) | decide +kernel | exact decide_eq_false (by omega)
        · rw [decide_eq_true (show 48 ≤ sAt s (j : Int) by omega), decide_eq_true (show sAt s (j : Int) ≤ 57 by omega), Bool.and_self, if_pos rfl]
          have L := lc_10000000100 s (sLen s) (j : Int) rest
          rw [e1] at L
          refine round_go L (pickL_ok ?_ _) rfl rfl rfl rfl
          repeat' (first | exact cd_nil | refine cd_cons ?_ ?_)
          all_goals first | with_reducible rfl | with_reducible assumption | exact decide_eq_true (by omega) | (exact hs) | (rw [hs]; rfl) | decide +kernel | exact decide_eq_false (by omega)
    · rw [if_neg hlt]
      have k0 : decide (i < sLen s) = false := decide_eq_false hlt
      have hs : True := trivial
      have L := lc_0 s (sLen s) i rest
      refine round_out L rfl (pickL_ok ?_ _) rfl rfl rfl
      repeat' (first | exact cd_nil | refine cd_cons ?_ ?_)
      all_goals first | with_reducible rfl | with_reducible assumption | exact decide_eq_true (by omega) | (exact hs) | (rw [hs]; rfl) | decide +kernel
  · exfalso
    have : lcStep ⟨s, n, i⟩ = .bad := if_neg ok
    rw [this] at hb; cases hb
theorem lc_runs {s : ByteArray} (h : sLen s = 23) : ∀ (j i : Nat), i + j = 23 → ∃ c, runs lcStep c ⟨s, sLen s, i⟩ = (if okFrom s j i = true then some (.exit 0, lcTm s (sLen s) (sLen s), [⟨9, [.lit (.string s)]⟩, ⟨23, [.int .i64 0, .int .i64 0, .int .i64 0, .int .i64 0, .int .i64 0, .int .i64 0, .int .i64 0]⟩]) else some (.ret, [(3, .w (.one (.int .i64 5)))], [⟨9, [.lit (.string s)]⟩, ⟨23, [.int .i64 0, .int .i64 0, .int .i64 0, .int .i64 0, .int .i64 0, .int .i64 0, .int .i64 0]⟩]))
  | 0, i, hi => by
    have e : (i : Int) = sLen s := by omega
    refine ⟨1, ?_⟩
    rw [runs, lc_go ⟨by omega, by omega, rfl, h⟩]
    unfold lcNx
    rw [if_neg (by omega), e]
    rfl
  | j + 1, i, hi => by
    have hl : (i : Int) < sLen s := by omega
    have en : (i : Int).toNat = i := Int.toNat_natCast i
    by_cases g : okAt s i = true
    · obtain ⟨c, hc⟩ := lc_runs h j (i + 1) (by omega)
      refine ⟨c + 1, ?_⟩
      rw [runs, lc_go ⟨by omega, by omega, rfl, h⟩]
      unfold lcNx
      rw [if_pos hl, en, if_pos g, okFrom, g, Bool.true_and]
      exact hc
    · refine ⟨1, ?_⟩
      rw [runs, lc_go ⟨by omega, by omega, rfl, h⟩]
      unfold lcNx
      rw [if_pos hl, en, if_neg g, okFrom]
      simp only [g, Bool.false_and, Bool.false_eq_true, if_false]
def lcD : LpDefR lcT Nm where
  ts := [14, 15]
  ps := [1, 2]
  rs := []
  W := [1, 2, 3, 4, 5, 14, 15, 16, 17, 18, 19, 20, 21, 22, 23, 24, 25, 26, 27, 28, 29, 30, 31, 32, 33, 34, 35, 36, 37, 38, 39, 40, 41, 42, 43, 44, 45, 46, 47, 48, 49, 50, 51, 52, 53, 54, 55, 56, 57]
  dec := fun vs tr ks => match vs, tr, ks with
    | [.w (.one (.int .i64 n)), .w (.one (.int .i64 i))], [], [⟨9, [.lit (.string s)]⟩, ⟨23, [.int .i64 0, .int .i64 0, .int .i64 0, .int .i64 0, .int .i64 0, .int .i64 0, .int .i64 0]⟩] => some ⟨s, n, i⟩
    | _, _, _ => none
  fk := fun t => some (okFrom t.s 23 0)
  spec := fun t β => match β with
    | true => some (.exit 0, lcTm t.s t.n t.n, [], [⟨9, [.lit (.string t.s)]⟩, ⟨23, [.int .i64 0, .int .i64 0, .int .i64 0, .int .i64 0, .int .i64 0, .int .i64 0, .int .i64 0]⟩], [(decide (t.i = 0) && decide (t.n = sLen t.s) && decide (t.n = 23), true)])
    | false => some (.ret, [(3, .w (.one (.int .i64 5)))], [], [⟨9, [.lit (.string t.s)]⟩, ⟨23, [.int .i64 0, .int .i64 0, .int .i64 0, .int .i64 0, .int .i64 0, .int .i64 0, .int .i64 0]⟩], [(decide (t.i = 0) && decide (t.n = sLen t.s) && decide (t.n = 23), true)])
theorem lcD_ok (x : Code) (hx : codeAt (bodyOf Tryd.f7) [false, true, false, true, true] = some (.loop x)) : LpOk Tryd.prog numI 81 x (lcD.sp nmSafe) := by
  obtain rfl := loopAt_eq hx
  refine lpR_ok (c := ctxOf Tryd.prog numI (fun _ => false) []) (ctxOf_ok (lib1_nil _ _) (eq_none _)) (by kernel_rfl) (fun _ _ _ h => h) hx lps_nil (S := lcS) (step := lcStep) (fun _ h => h) (by kernel_rfl) (by kernel_rfl) ?_ rfl (fun t e he => ?_) (fun t hb rest => lc_round t hb rest) ?_
  · intro vs tr ks s hv1 hv2 h hv3
    simp only [lcD] at h
    split at h
    · cases h
      exact ⟨rfl, fun e he => .inl he⟩
    · cases h
  · simp only [lcS, lcTm, List.mem_cons, List.not_mem_nil, or_false] at he
    rcases he with rfl | rfl <;> rfl
  · intro s β ex outs rts wb cd h hfk hc
    obtain ⟨s, n, i⟩ := s
    have hβ := hfk _ rfl
    cases β with
    | true =>
      simp only [lcD] at h hβ
      cases h
      have := hc _ (List.mem_singleton.2 rfl)
      simp only [Bool.and_eq_true, decide_eq_true_eq] at this
      obtain ⟨⟨rfl, rfl⟩, h3⟩ := this
      obtain ⟨c, hc⟩ := lc_runs h3 23 0 (by omega)
      refine ⟨c, ?_⟩
      rw [if_pos hβ] at hc
      exact hc
    | false =>
      simp only [lcD] at h hβ
      cases h
      have := hc _ (List.mem_singleton.2 rfl)
      simp only [Bool.and_eq_true, decide_eq_true_eq] at this
      obtain ⟨⟨rfl, rfl⟩, h3⟩ := this
      obtain ⟨c, hc⟩ := lc_runs h3 23 0 (by omega)
      refine ⟨c, ?_⟩
      rw [if_neg (by rw [hβ]; simp)] at hc
      exact hc
noncomputable abbrev lcLps : Lps Nm := [((81, [false, true, false, true, true]), lcD.sp nmSafe)]
theorem lcLps_ok : LpsOk Tryd.prog numI lcLps Tryd.f7.ntmps (bodyOf Tryd.f7) := lps_cons (fun _ x hx => lcD_ok x hx) lps_nil
end
end Go.Proofs.YtokkaeaciigapaaDoor.AtSx

