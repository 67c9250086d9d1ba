/-
  The reference's dates: what leapYear, monthDays, FirstDay, DayNumber and DateOf return.
  Conditions: those of each theorem.
-/
import Derived.Test.YtokkaeaciigapaaDoorD2
set_option linter.unusedVariables false
set_option linter.unusedSimpArgs false
namespace Go.Proofs.YtokkaeaciigapaaDoor
open Go.RowKit Ev Sc
variable {F : Type}
noncomputable section

noncomputable abbrev libR1 : List (Nat × FnSp F) := [(55, sp1 (dInt .i64) (fun y => aBool (decide (lpP y))) (fun y => [(y0B y, true)]))]
set_option maxRecDepth 100000 in
theorem lyf_l0 (y : Int) : evR (ctxOf Tryd.prog noFacts (fun _ => false) []) Tryd.f55 [(.w (.one (.int .i64 y)))] [true] = some (AV.w (AW.one (AC.yes true)), [(decide (400 = 0), false), (y.tmod 400 == 0, true), (y.tmod 400 == 0, true), (y.tmod 400 == 0, true), (y.tmod 400 == 0, true), (y.tmod 400 == 0, true), (y.tmod 400 == 0, true)]) := by kernel_rfl
set_option maxRecDepth 100000 in
theorem lyf_l1 (y : Int) : evR (ctxOf Tryd.prog noFacts (fun _ => false) []) Tryd.f55 [(.w (.one (.int .i64 y)))] [false, true] = some (AV.w (AW.one (AC.bool (y.tmod 100 != 0))), [(decide (400 = 0), false), (y.tmod 400 == 0, false), (y.tmod 400 == 0, false), (decide (4 = 0), false), (y.tmod 400 == 0, false), (y.tmod 400 == 0, false), (y.tmod 4 == 0, true), (y.tmod 4 == 0, true), (decide (100 = 0), false), (y.tmod 4 == 0, true), (y.tmod 400 == 0, false), (y.tmod 4 == 0, true), (y.tmod 400 == 0, false)]) := by kernel_rfl
set_option maxRecDepth 100000 in
theorem lyf_l2 (y : Int) : evR (ctxOf Tryd.prog noFacts (fun _ => false) []) Tryd.f55 [(.w (.one (.int .i64 y)))] [false, false] = some (AV.w (AW.one (AC.yes false)), [(decide (400 = 0), false), (y.tmod 400 == 0, false), (y.tmod 400 == 0, false), (decide (4 = 0), false), (y.tmod 400 == 0, false), (y.tmod 400 == 0, false), (y.tmod 4 == 0, false), (y.tmod 4 == 0, false), (y.tmod 4 == 0, false), (y.tmod 400 == 0, false), (y.tmod 4 == 0, false), (y.tmod 400 == 0, false)]) := by kernel_rfl
set_option maxRecDepth 100000 in
theorem lyf_t (y : Int) (s0 : (y.tmod 400 == 0) = true → (decide (400 = 0)) = false) (s1 : (y.tmod 400 == 0) = false → (y.tmod 4 == 0) = true → (decide (100 = 0)) = false) (s2 : (y.tmod 400 == 0) = false → (y.tmod 4 == 0) = true → (decide (4 = 0)) = false) (s3 : (y.tmod 400 == 0) = false → (y.tmod 4 == 0) = true → (decide (400 = 0)) = false) (s4 : (y.tmod 400 == 0) = false → (y.tmod 4 == 0) = false → (decide (4 = 0)) = false) (s5 : (y.tmod 400 == 0) = false → (y.tmod 4 == 0) = false → (decide (400 = 0)) = false) : Pl Tryd.prog 55 [.int .i64 y] (AV.get ((bif y.tmod 400 == 0 then (AV.w (AW.one (AC.yes true))) else (bif y.tmod 4 == 0 then (AV.w (AW.one (AC.bool (y.tmod 100 != 0)))) else (AV.w (AW.one (AC.yes false))))) : AV Empty)) :=
  (pl_node (fun h0 => (pl_leaf rfl (ctxOf_ok (lib1_nil _ _) (eq_none _)) (by kernel_rfl) Tryd.func55 rfl (lyf_l0 y) rfl (all2_R (.cons rfl .nil)) rfl (cd_cons (s0 h0) (cd_cons h0 (cd_cons h0 (cd_cons h0 (cd_cons h0 (cd_cons h0 (cd_cons h0 cd_nil))))))))) (fun h0 => (pl_node (fun h1 => (pl_leaf rfl (ctxOf_ok (lib1_nil _ _) (eq_none _)) (by kernel_rfl) Tryd.func55 rfl (lyf_l1 y) rfl (all2_R (.cons rfl .nil)) rfl (cd_cons (s3 h0 h1) (cd_cons h0 (cd_cons h0 (cd_cons (s2 h0 h1) (cd_cons h0 (cd_cons h0 (cd_cons h1 (cd_cons h1 (cd_cons (s1 h0 h1) (cd_cons h1 (cd_cons h0 (cd_cons h1 (cd_cons h0 cd_nil))))))))))))))) (fun h1 => (pl_leaf rfl (ctxOf_ok (lib1_nil _ _) (eq_none _)) (by kernel_rfl) Tryd.func55 rfl (lyf_l2 y) rfl (all2_R (.cons rfl .nil)) rfl (cd_cons (s5 h0 h1) (cd_cons h0 (cd_cons h0 (cd_cons (s4 h0 h1) (cd_cons h0 (cd_cons h0 (cd_cons h1 (cd_cons h1 (cd_cons h1 (cd_cons h0 (cd_cons h1 (cd_cons h0 cd_nil)))))))))))))))))
theorem lyf_pl (y : Int) (hy : y0B y = true) : Pl Tryd.prog 55 [.int .i64 y] (.bool (decide (lpP y))) := by
  refine Eq.mp (congrArg (Pl _ _ _) ?_) (lyf_t y (fun h0 => by first | rfl | assumption) (fun h0 h1 => by first | rfl | assumption) (fun h0 h1 => by first | rfl | assumption) (fun h0 h1 => by first | rfl | assumption) (fun h0 h1 => by first | rfl | assumption) (fun h0 h1 => by first | rfl | assumption))
  have h := (y0B_iff.1 hy).1
  rw [Int.tmod_eq_emod_of_nonneg h, Int.tmod_eq_emod_of_nonneg h, Int.tmod_eq_emod_of_nonneg h]
  by_cases a : y % 400 = 0
  · rw [decide_eq_true (show lpP y from .inl a), a]; rfl
  · have a' : (y % 400 == 0) = false := by simpa using a
    by_cases b : y % 4 = 0
    · by_cases c : y % 100 = 0
      · rw [decide_eq_false (show ¬ lpP y by unfold lpP; omega), a', b, c]; rfl
      · have c' : (y % 100 != 0) = true := by simpa using c
        rw [decide_eq_true (show lpP y by unfold lpP; omega), a', b, c']; rfl
    · have b' : (y % 4 == 0) = false := by simpa using b
      rw [decide_eq_false (show ¬ lpP y by unfold lpP; omega), a', b']; rfl
theorem libR1_ok (I : Interp F) : LibOk Tryd.prog I (lib1 libR1) := lib1_cons (sp1_ok fun y hc => ⟨_, rfl, lyf_pl y (cd1' hc)⟩) Tryd.call55 (lib1_nil _ _)
set_option maxRecDepth 100000 in
theorem md1_0 (y : Int) : evR (ctxOf Tryd.prog noFacts (fun _ => false) libR1) Tryd.f42 [(.w (.one (.int .i64 y))), (.w (.one (.int .i64 1)))] [false] = some (AV.w (AW.one (AC.int IntKind.i64 31)), (pickL [(1 == 2, false), (false, false), (decide (0 ≤ IntKind.i64.wrap (1 - 1)), true), (decide (IntKind.i64.wrap (1 - 1) < ((12 : Nat) : Int)), true)] [0, 0, 0, 1, 2, 3])) := by kernel_rfl
set_option maxRecDepth 100000 in
theorem md3_0 (y : Int) : evR (ctxOf Tryd.prog noFacts (fun _ => false) libR1) Tryd.f42 [(.w (.one (.int .i64 y))), (.w (.one (.int .i64 3)))] [false] = some (AV.w (AW.one (AC.int IntKind.i64 31)), (pickL [(3 == 2, false), (false, false), (decide (0 ≤ IntKind.i64.wrap (3 - 1)), true), (decide (IntKind.i64.wrap (3 - 1) < ((12 : Nat) : Int)), true)] [0, 0, 0, 1, 2, 3])) := by kernel_rfl
set_option maxRecDepth 100000 in
theorem md4_0 (y : Int) : evR (ctxOf Tryd.prog noFacts (fun _ => false) libR1) Tryd.f42 [(.w (.one (.int .i64 y))), (.w (.one (.int .i64 4)))] [false] = some (AV.w (AW.one (AC.int IntKind.i64 30)), (pickL [(4 == 2, false), (false, false), (decide (0 ≤ IntKind.i64.wrap (4 - 1)), true), (decide (IntKind.i64.wrap (4 - 1) < ((12 : Nat) : Int)), true)] [0, 0, 0, 1, 2, 3])) := by kernel_rfl
set_option maxRecDepth 100000 in
theorem md5_0 (y : Int) : evR (ctxOf Tryd.prog noFacts (fun _ => false) libR1) Tryd.f42 [(.w (.one (.int .i64 y))), (.w (.one (.int .i64 5)))] [false] = some (AV.w (AW.one (AC.int IntKind.i64 31)), (pickL [(5 == 2, false), (false, false), (decide (0 ≤ IntKind.i64.wrap (5 - 1)), true), (decide (IntKind.i64.wrap (5 - 1) < ((12 : Nat) : Int)), true)] [0, 0, 0, 1, 2, 3])) := by kernel_rfl
set_option maxRecDepth 100000 in
theorem md6_0 (y : Int) : evR (ctxOf Tryd.prog noFacts (fun _ => false) libR1) Tryd.f42 [(.w (.one (.int .i64 y))), (.w (.one (.int .i64 6)))] [false] = some (AV.w (AW.one (AC.int IntKind.i64 30)), (pickL [(6 == 2, false), (false, false), (decide (0 ≤ IntKind.i64.wrap (6 - 1)), true), (decide (IntKind.i64.wrap (6 - 1) < ((12 : Nat) : Int)), true)] [0, 0, 0, 1, 2, 3])) := by kernel_rfl
set_option maxRecDepth 100000 in
theorem md7_0 (y : Int) : evR (ctxOf Tryd.prog noFacts (fun _ => false) libR1) Tryd.f42 [(.w (.one (.int .i64 y))), (.w (.one (.int .i64 7)))] [false] = some (AV.w (AW.one (AC.int IntKind.i64 31)), (pickL [(7 == 2, false), (false, false), (decide (0 ≤ IntKind.i64.wrap (7 - 1)), true), (decide (IntKind.i64.wrap (7 - 1) < ((12 : Nat) : Int)), true)] [0, 0, 0, 1, 2, 3])) := by kernel_rfl
set_option maxRecDepth 100000 in
theorem md8_0 (y : Int) : evR (ctxOf Tryd.prog noFacts (fun _ => false) libR1) Tryd.f42 [(.w (.one (.int .i64 y))), (.w (.one (.int .i64 8)))] [false] = some (AV.w (AW.one (AC.int IntKind.i64 31)), (pickL [(8 == 2, false), (false, false), (decide (0 ≤ IntKind.i64.wrap (8 - 1)), true), (decide (IntKind.i64.wrap (8 - 1) < ((12 : Nat) : Int)), true)] [0, 0, 0, 1, 2, 3])) := by kernel_rfl
set_option maxRecDepth 100000 in
theorem md9_0 (y : Int) : evR (ctxOf Tryd.prog noFacts (fun _ => false) libR1) Tryd.f42 [(.w (.one (.int .i64 y))), (.w (.one (.int .i64 9)))] [false] = some (AV.w (AW.one (AC.int IntKind.i64 30)), (pickL [(9 == 2, false), (false, false), (decide (0 ≤ IntKind.i64.wrap (9 - 1)), true), (decide (IntKind.i64.wrap (9 - 1) < ((12 : Nat) : Int)), true)] [0, 0, 0, 1, 2, 3])) := by kernel_rfl
set_option maxRecDepth 100000 in
theorem md10_0 (y : Int) : evR (ctxOf Tryd.prog noFacts (fun _ => false) libR1) Tryd.f42 [(.w (.one (.int .i64 y))), (.w (.one (.int .i64 10)))] [false] = some (AV.w (AW.one (AC.int IntKind.i64 31)), (pickL [(10 == 2, false), (false, false), (decide (0 ≤ IntKind.i64.wrap (10 - 1)), true), (decide (IntKind.i64.wrap (10 - 1) < ((12 : Nat) : Int)), true)] [0, 0, 0, 1, 2, 3])) := by kernel_rfl
set_option maxRecDepth 100000 in
theorem md11_0 (y : Int) : evR (ctxOf Tryd.prog noFacts (fun _ => false) libR1) Tryd.f42 [(.w (.one (.int .i64 y))), (.w (.one (.int .i64 11)))] [false] = some (AV.w (AW.one (AC.int IntKind.i64 30)), (pickL [(11 == 2, false), (false, false), (decide (0 ≤ IntKind.i64.wrap (11 - 1)), true), (decide (IntKind.i64.wrap (11 - 1) < ((12 : Nat) : Int)), true)] [0, 0, 0, 1, 2, 3])) := by kernel_rfl
set_option maxRecDepth 100000 in
theorem md12_0 (y : Int) : evR (ctxOf Tryd.prog noFacts (fun _ => false) libR1) Tryd.f42 [(.w (.one (.int .i64 y))), (.w (.one (.int .i64 12)))] [false] = some (AV.w (AW.one (AC.int IntKind.i64 31)), (pickL [(12 == 2, false), (false, false), (decide (0 ≤ IntKind.i64.wrap (12 - 1)), true), (decide (IntKind.i64.wrap (12 - 1) < ((12 : Nat) : Int)), true)] [0, 0, 0, 1, 2, 3])) := by kernel_rfl
set_option maxRecDepth 100000 in
theorem md2_11 (y : Int) : evR (ctxOf Tryd.prog noFacts (fun _ => false) libR1) Tryd.f42 [(.w (.one (.int .i64 y))), (.w (.one (.int .i64 2)))] [true, true] = some (AV.w (AW.one (AC.int IntKind.i64 29)), (pickL [(2 == 2, true), (y0B y, true), (decide (lpP y), true)] [0, 0, 1, 0, 2])) := by kernel_rfl
set_option maxRecDepth 100000 in
theorem md2_10 (y : Int) : evR (ctxOf Tryd.prog noFacts (fun _ => false) libR1) Tryd.f42 [(.w (.one (.int .i64 y))), (.w (.one (.int .i64 2)))] [true, false] = some (AV.w (AW.one (AC.int IntKind.i64 28)), (pickL [(2 == 2, true), (y0B y, true), (decide (lpP y), false), (decide (0 ≤ IntKind.i64.wrap (2 - 1)), true), (decide (IntKind.i64.wrap (2 - 1) < ((12 : Nat) : Int)), true)] [0, 0, 1, 0, 2, 3, 4])) := by kernel_rfl
def m12B (m : Int) : Bool := decide (1 ≤ m) && decide (m ≤ 12)
noncomputable abbrev libR2 : List (Nat × FnSp F) := (42, sp2 (dInt .i64) (dInt .i64) (fun y m => aInt .i64 (mlV y m)) (fun y m => [(y0B y, true), (m12B m, true)])) :: libR1
theorem m12B_iff {m : Int} : m12B m = true ↔ 1 ≤ m ∧ m ≤ 12 := by unfold m12B; simp
set_option maxHeartbeats 2000000 in
theorem md_pl (y m : Int) (hy : y0B y = true) (hm : m12B m = true) : Pl Tryd.prog 42 [.int .i64 y, .int .i64 m] (.int .i64 (mlV y m)) := fun w => by
  rw [m12B_iff] at hm
  rcases (show m = 1 ∨ m = 2 ∨ m = 3 ∨ m = 4 ∨ m = 5 ∨ m = 6 ∨ m = 7 ∨ m = 8 ∨ m = 9 ∨ m = 10 ∨ m = 11 ∨ m = 12 by omega) with rfl | rfl | rfl | rfl | rfl | rfl | rfl | rfl | rfl | rfl | rfl | rfl
  · rw [show mlV y 1 = 31 by unfold mlV; simp]
    refine (evR_calls (I := noFacts) (v := .int .i64 31) (ctxOf_ok (libR1_ok _) (eq_none _)) (by kernel_rfl) Tryd.func42 rfl lps_nil (md1_0 y) rfl (all2_R (.cons rfl (.cons rfl .nil))) rfl w (Nat.zero_le _) (pickL_ok ?_ _))
    repeat' (first | exact cd_nil | refine cd_cons ?_ ?_)
    all_goals first | rfl | with_reducible assumption
  · by_cases h : lpP y
    · have c : decide (lpP y) = true := decide_eq_true h
      rw [show mlV y 2 = 29 by unfold mlV; rw [if_pos rfl, if_pos h]]
      refine (evR_calls (I := noFacts) (v := .int .i64 29) (ctxOf_ok (libR1_ok _) (eq_none _)) (by kernel_rfl) Tryd.func42 rfl lps_nil (md2_11 y) rfl (all2_R (.cons rfl (.cons rfl .nil))) rfl w (Nat.zero_le _) (pickL_ok ?_ _))
      repeat' (first | exact cd_nil | refine cd_cons ?_ ?_)
      all_goals first | rfl | with_reducible assumption
    · have c : decide (lpP y) = false := decide_eq_false h
      rw [show mlV y 2 = 28 by unfold mlV; rw [if_pos rfl, if_neg h]]
      refine (evR_calls (I := noFacts) (v := .int .i64 28) (ctxOf_ok (libR1_ok _) (eq_none _)) (by kernel_rfl) Tryd.func42 rfl lps_nil (md2_10 y) rfl (all2_R (.cons rfl (.cons rfl .nil))) rfl w (Nat.zero_le _) (pickL_ok ?_ _))
      repeat' (first | exact cd_nil | refine cd_cons ?_ ?_)
      all_goals first | rfl | with_reducible assumption
  · rw [show mlV y 3 = 31 by unfold mlV; simp]
    refine (evR_calls (I := noFacts) (v := .int .i64 31) (ctxOf_ok (libR1_ok _) (eq_none _)) (by kernel_rfl) Tryd.func42 rfl lps_nil (md3_0 y) rfl (all2_R (.cons rfl (.cons rfl .nil))) rfl w (Nat.zero_le _) (pickL_ok ?_ _))
    repeat' (first | exact cd_nil | refine cd_cons ?_ ?_)
    all_goals first | rfl | with_reducible assumption
  · rw [show mlV y 4 = 30 by unfold mlV; simp]
    refine (evR_calls (I := noFacts) (v := .int .i64 30) (ctxOf_ok (libR1_ok _) (eq_none _)) (by kernel_rfl) Tryd.func42 rfl lps_nil (md4_0 y) rfl (all2_R (.cons rfl (.cons rfl .nil))) rfl w (Nat.zero_le _) (pickL_ok ?_ _))
    repeat' (first | exact cd_nil | refine cd_cons ?_ ?_)
    all_goals first | rfl | with_reducible assumption
  · rw [show mlV y 5 = 31 by unfold mlV; simp]
    refine (evR_calls (I := noFacts) (v := .int .i64 31) (ctxOf_ok (libR1_ok _) (eq_none _)) (by kernel_rfl) Tryd.func42 rfl lps_nil (md5_0 y) rfl (all2_R (.cons rfl (.cons rfl .nil))) rfl w (Nat.zero_le _) (pickL_ok ?_ _))
    repeat' (first | exact cd_nil | refine cd_cons ?_ ?_)
    all_goals first | rfl | with_reducible assumption
  · rw [show mlV y 6 = 30 by unfold mlV; simp]
    refine (evR_calls (I := noFacts) (v := .int .i64 30) (ctxOf_ok (libR1_ok _) (eq_none _)) (by kernel_rfl) Tryd.func42 rfl lps_nil (md6_0 y) rfl (all2_R (.cons rfl (.cons rfl .nil))) rfl w (Nat.zero_le _) (pickL_ok ?_ _))
    repeat' (first | exact cd_nil | refine cd_cons ?_ ?_)
    all_goals first | rfl | with_reducible assumption
  · rw [show mlV y 7 = 31 by unfold mlV; simp]
    refine (evR_calls (I := noFacts) (v := .int .i64 31) (ctxOf_ok (libR1_ok _) (eq_none _)) (by kernel_rfl) Tryd.func42 rfl lps_nil (md7_0 y) rfl (all2_R (.cons rfl (.cons rfl .nil))) rfl w (Nat.zero_le _) (pickL_ok ?_ _))
    repeat' (first | exact cd_nil | refine cd_cons ?_ ?_)
    all_goals first | rfl | with_reducible assumption
  · rw [show mlV y 8 = 31 by unfold mlV; simp]
    refine (evR_calls (I := noFacts) (v := .int .i64 31) (ctxOf_ok (libR1_ok _) (eq_none _)) (by kernel_rfl) Tryd.func42 rfl lps_nil (md8_0 y) rfl (all2_R (.cons rfl (.cons rfl .nil))) rfl w (Nat.zero_le _) (pickL_ok ?_ _))
    repeat' (first | exact cd_nil | refine cd_cons ?_ ?_)
    all_goals first | rfl | with_reducible assumption
  · rw [show mlV y 9 = 30 by unfold mlV; simp]
    refine (evR_calls (I := noFacts) (v := .int .i64 30) (ctxOf_ok (libR1_ok _) (eq_none _)) (by kernel_rfl) Tryd.func42 rfl lps_nil (md9_0 y) rfl (all2_R (.cons rfl (.cons rfl .nil))) rfl w (Nat.zero_le _) (pickL_ok ?_ _))
    repeat' (first | exact cd_nil | refine cd_cons ?_ ?_)
    all_goals first | rfl | with_reducible assumption
  · rw [show mlV y 10 = 31 by unfold mlV; simp]
    refine (evR_calls (I := noFacts) (v := .int .i64 31) (ctxOf_ok (libR1_ok _) (eq_none _)) (by kernel_rfl) Tryd.func42 rfl lps_nil (md10_0 y) rfl (all2_R (.cons rfl (.cons rfl .nil))) rfl w (Nat.zero_le _) (pickL_ok ?_ _))
    repeat' (first | exact cd_nil | refine cd_cons ?_ ?_)
    all_goals first | rfl | with_reducible assumption
  · rw [show mlV y 11 = 30 by unfold mlV; simp]
    refine (evR_calls (I := noFacts) (v := .int .i64 30) (ctxOf_ok (libR1_ok _) (eq_none _)) (by kernel_rfl) Tryd.func42 rfl lps_nil (md11_0 y) rfl (all2_R (.cons rfl (.cons rfl .nil))) rfl w (Nat.zero_le _) (pickL_ok ?_ _))
    repeat' (first | exact cd_nil | refine cd_cons ?_ ?_)
    all_goals first | rfl | with_reducible assumption
  · rw [show mlV y 12 = 31 by unfold mlV; simp]
    refine (evR_calls (I := noFacts) (v := .int .i64 31) (ctxOf_ok (libR1_ok _) (eq_none _)) (by kernel_rfl) Tryd.func42 rfl lps_nil (md12_0 y) rfl (all2_R (.cons rfl (.cons rfl .nil))) rfl w (Nat.zero_le _) (pickL_ok ?_ _))
    repeat' (first | exact cd_nil | refine cd_cons ?_ ?_)
    all_goals first | rfl | with_reducible assumption
theorem libR2_ok (I : Interp F) : LibOk Tryd.prog I (lib1 libR2) := lib1_cons (sp2_ok fun y m hc => ⟨_, rfl, md_pl y m (hc (y0B y, true) (by simp)) (hc (m12B m, true) (by simp))⟩) Tryd.call42 (libR1_ok _)
set_option maxRecDepth 100000 in
theorem fa_11 (y : Int) (n : Int) (k : Int) (rest : List (Nat × AV Empty)) : evView (ctxOf Tryd.prog noFacts (fun _ => false) libR1) 29 (false :: [false, true, false, true, true]) (loopAt (bodyOf Tryd.f43) [false, true, false, true, true]) ([(0, (.w (.one (.int .i64 y)))), (3, (.w (.one (.int .i64 n)))), (4, (.w (.one (.int .i64 k))))] ++ (ptrN 0 [] ++ rest)) [] 0 [0, 3, 4] [true, true] = some ((Ex.normal, [AV.w (AW.one (AC.int IntKind.i64 y)), AV.w (AW.one (AC.int IntKind.i64 (IntKind.i64.wrap (IntKind.i64.wrap (n + 365) + 1)))), AV.w (AW.one (AC.int IntKind.i64 (IntKind.i64.wrap (k + 1))))], []), (pickL [(decide (k < y), true), (y0B k, true), (decide (lpP k), true)] [0, 1, 2])) := by kernel_rfl
set_option maxRecDepth 100000 in
theorem fa_10 (y : Int) (n : Int) (k : Int) (rest : List (Nat × AV Empty)) : evView (ctxOf Tryd.prog noFacts (fun _ => false) libR1) 29 (false :: [false, true, false, true, true]) (loopAt (bodyOf Tryd.f43) [false, true, false, true, true]) ([(0, (.w (.one (.int .i64 y)))), (3, (.w (.one (.int .i64 n)))), (4, (.w (.one (.int .i64 k))))] ++ (ptrN 0 [] ++ rest)) [] 0 [0, 3, 4] [true, false] = some ((Ex.normal, [AV.w (AW.one (AC.int IntKind.i64 y)), AV.w (AW.one (AC.int IntKind.i64 (IntKind.i64.wrap (n + 365)))), AV.w (AW.one (AC.int IntKind.i64 (IntKind.i64.wrap (k + 1))))], []), (pickL [(decide (k < y), true), (y0B k, true), (decide (lpP k), false)] [0, 1, 2])) := by kernel_rfl
set_option maxRecDepth 100000 in
theorem fa_0 (y : Int) (n : Int) (k : Int) (rest : List (Nat × AV Empty)) : evView (ctxOf Tryd.prog noFacts (fun _ => false) libR1) 29 (false :: [false, true, false, true, true]) (loopAt (bodyOf Tryd.f43) [false, true, false, true, true]) ([(0, (.w (.one (.int .i64 y)))), (3, (.w (.one (.int .i64 n)))), (4, (.w (.one (.int .i64 k))))] ++ (ptrN 0 [] ++ rest)) [] 0 [0, 3, 4] [false] = some ((Ex.exit 0, [AV.w (AW.one (AC.int IntKind.i64 y)), AV.w (AW.one (AC.int IntKind.i64 n)), AV.w (AW.one (AC.int IntKind.i64 k))], []), (pickL [(decide (k < y), false)] [0])) := by kernel_rfl
structure faT where
  y : Int
  n : Int
  k : Int
def faP (y : Int) (n : Int) (k : Int) : Prop := 2000 ≤ k ∧ k ≤ 10000 ∧ y ≤ 10000 ∧ n = nyV k
instance (y : Int) (n : Int) (k : Int) : Decidable (faP y n k) := by unfold faP; infer_instance
def faTm (y : Int) (n : Int) (k : Int) : List (Nat × AV Empty) := [(0, (.w (.one (.int .i64 y)))), (3, (.w (.one (.int .i64 n)))), (4, (.w (.one (.int .i64 k))))]
def faS : LpSt faT Empty where
  ps := []
  tm := fun t => faTm t.y t.n t.k
  hp := fun t => []
def faNx (y : Int) (n : Int) (k : Int) : Nxt faT Empty := if k < y then .go ⟨y, n + ylV k, k + 1⟩ else .out (.exit 0) (faTm y n k) []
def faStep (t : faT) : Nxt faT Empty := if faP t.y t.n t.k then faNx t.y t.n t.k else .bad
theorem fa_go {y n k : Int} (h : faP y n k) : faStep ⟨y, n, k⟩ = faNx y n k := if_pos h
set_option maxRecDepth 100000 in
set_option maxHeartbeats 4000000 in
theorem fa_round (t : faT) (hb : (faStep t).isBad = false) (rest : List (Nat × AV Empty)) : ∃ fuel path r, evC (ctxOf Tryd.prog noFacts (fun _ => false) libR1) fuel 29 (false :: [false, true, false, true, true]) (loopAt (bodyOf Tryd.f43) [false, true, false, true, true]) (faS.tm t ++ (ptrN 0 faS.ps ++ rest)) (numb 0 (faS.hp t)) 0 path = some r ∧ (∀ p ∈ r.cd, p.1 = p.2) ∧ Gives faS 0 r (faStep t) := by
  obtain ⟨y, n, k⟩ := t
  by_cases ok : faP y n k
  · rw [fa_go ok]
    clear hb
    unfold faNx
    obtain ⟨h1, h2, h3, h4⟩ := ok
    have i1 : y0B k = true := y0B_iff.2 (by omega)
    have b := ny_in (y := k) (by omega) (by omega)
    have e1 : IntKind.i64.wrap (n + 365) = n + 365 := w64 (by omega) (by omega)
    have e2 : IntKind.i64.wrap (n + 365 + 1) = n + 366 := by rw [w64 (by omega) (by omega)]; omega
    have e3 : IntKind.i64.wrap (k + 1) = k + 1 := w64 (by omega) (by omega)
    by_cases hk : k < y
    · have c1 : decide (k < y) = true := decide_eq_true hk
      rw [if_pos hk]
      by_cases hp : lpP k
      · have c2 : decide (lpP k) = true := decide_eq_true hp
        have yl : ylV k = 366 := if_pos hp
        rw [yl]
        have L := fa_11 y n k rest
        rw [e1, e2, e3] at L
        refine round_go L (pickL_ok ?_ _) rfl rfl rfl rfl
        repeat' (first | exact cd_nil | refine cd_cons ?_ ?_)
        all_goals first | rfl | with_reducible assumption
      · have c2 : decide (lpP k) = false := decide_eq_false hp
        have yl : ylV k = 365 := if_neg hp
        rw [yl]
        have L := fa_10 y n k rest
        rw [e1, e3] at L
        refine round_go L (pickL_ok ?_ _) rfl rfl rfl rfl
        repeat' (first | exact cd_nil | refine cd_cons ?_ ?_)
        all_goals first | rfl | with_reducible assumption
    · have c1 : decide (k < y) = false := decide_eq_false hk
      rw [if_neg hk]
      have L := fa_0 y n k rest
      refine round_out L rfl (pickL_ok ?_ _) rfl rfl rfl
      repeat' (first | exact cd_nil | refine cd_cons ?_ ?_)
      all_goals first | rfl | with_reducible assumption
  · exfalso
    have : faStep ⟨y, n, k⟩ = .bad := if_neg ok
    rw [this] at hb; cases hb
def mxV (y : Int) : Int := if 2000 ≤ y then y else 2000
theorem fa_runs {y : Int} (hy : y ≤ 10000) : ∀ (j : Nat) (k : Int), 2000 ≤ k → (k ≤ y ∨ k = 2000) → (y - k).toNat ≤ j → ∃ c, runs faStep c ⟨y, nyV k, k⟩ = some (.exit 0, faTm y (nyV (mxV y)) (mxV y), [])
  | j, k, h1, h2, h3 => by
    by_cases hk : k < y
    · cases j with
      | zero => omega
      | succ j =>
        obtain ⟨c, hc⟩ := fa_runs hy j (k + 1) (by omega) (by omega) (by omega)
        refine ⟨c + 1, ?_⟩
        rw [runs, fa_go ⟨h1, by omega, hy, rfl⟩]
        unfold faNx
        rw [if_pos hk, ← ny_step]
        exact hc
    · have e : mxV y = k := by unfold mxV; split <;> omega
      refine ⟨1, ?_⟩
      rw [runs, fa_go ⟨h1, by omega, hy, rfl⟩]
      unfold faNx
      rw [if_neg hk, e]
  termination_by j => j
def faD : LpDef faT Empty where
  ts := [0, 3, 4]
  ps := []
  W := [0, 3, 4, 6, 7, 8, 9, 10, 11, 12, 13, 14, 15, 16]
  dec := fun vs ks => match vs, ks with
    | [.w (.one (.int .i64 y)), .w (.one (.int .i64 n)), .w (.one (.int .i64 k))], [] => some ⟨y, n, k⟩
    | _, _ => none
  spec := fun t => some ((.exit 0), faTm t.y (nyV (mxV t.y)) (mxV t.y), [], [(decide (t.y ≤ 10000) && decide (t.n = 0) && decide (t.k = 2000), true)])
theorem faD_ok (x : Code) (hx : codeAt (bodyOf Tryd.f43) [false, true, false, true, true] = some (.loop x)) : LpOk Tryd.prog noFacts 29 x (faD.sp (fun _ => false)) := by
  obtain rfl := loopAt_eq hx
  refine lp_ok (c := ctxOf Tryd.prog noFacts (fun _ => false) libR1) (ctxOf_ok (libR1_ok _) (eq_none _)) (by kernel_rfl) hx lps_nil (S := faS) (step := faStep) (fun _ h => by cases h) (by kernel_rfl) (by kernel_rfl) ?_ rfl (fun t e he => ?_) (fun t hb rest => fa_round t hb rest) ?_
  · intro vs ks s hv1 h hv2
    simp only [faD] at h
    split at h
    · cases h
      exact ⟨rfl, fun e he => he⟩
    · cases h
  · simp only [faS, faTm, List.mem_cons, List.not_mem_nil, or_false] at he
    rcases he with rfl | rfl | rfl <;> rfl
  · intro s ex outs wb cd h hc
    obtain ⟨y, n, k⟩ := s
    simp only [faD] at h
    cases h
    have := cd1' hc
    simp only [Bool.and_eq_true, decide_eq_true_eq] at this
    obtain ⟨⟨h1, rfl⟩, rfl⟩ := this
    exact fa_runs h1 (y - 2000).toNat 2000 (by omega) (.inr rfl) (Nat.le_refl _)
set_option maxRecDepth 100000 in
theorem fb_11 (n : Int) (k : Int) (rest : List (Nat × AV Empty)) : evView (ctxOf Tryd.prog noFacts (fun _ => false) libR1) 29 (false :: [false, true, false, true, true, true]) (loopAt (bodyOf Tryd.f43) [false, true, false, true, true, true]) ([(3, (.w (.one (.int .i64 n)))), (5, (.w (.one (.int .i64 k))))] ++ (ptrN 0 [] ++ rest)) [] 0 [3, 5] [true, true] = some ((Ex.normal, [AV.w (AW.one (AC.int IntKind.i64 (IntKind.i64.wrap (IntKind.i64.wrap (n - 365) - 1)))), AV.w (AW.one (AC.int IntKind.i64 (IntKind.i64.wrap (k + 1))))], []), (pickL [(decide (k < 2000), true), (y0B k, true), (decide (lpP k), true)] [0, 1, 2])) := by kernel_rfl
set_option maxRecDepth 100000 in
theorem fb_10 (n : Int) (k : Int) (rest : List (Nat × AV Empty)) : evView (ctxOf Tryd.prog noFacts (fun _ => false) libR1) 29 (false :: [false, true, false, true, true, true]) (loopAt (bodyOf Tryd.f43) [false, true, false, true, true, true]) ([(3, (.w (.one (.int .i64 n)))), (5, (.w (.one (.int .i64 k))))] ++ (ptrN 0 [] ++ rest)) [] 0 [3, 5] [true, false] = some ((Ex.normal, [AV.w (AW.one (AC.int IntKind.i64 (IntKind.i64.wrap (n - 365)))), AV.w (AW.one (AC.int IntKind.i64 (IntKind.i64.wrap (k + 1))))], []), (pickL [(decide (k < 2000), true), (y0B k, true), (decide (lpP k), false)] [0, 1, 2])) := by kernel_rfl
set_option maxRecDepth 100000 in
theorem fb_0 (n : Int) (k : Int) (rest : List (Nat × AV Empty)) : evView (ctxOf Tryd.prog noFacts (fun _ => false) libR1) 29 (false :: [false, true, false, true, true, true]) (loopAt (bodyOf Tryd.f43) [false, true, false, true, true, true]) ([(3, (.w (.one (.int .i64 n)))), (5, (.w (.one (.int .i64 k))))] ++ (ptrN 0 [] ++ rest)) [] 0 [3, 5] [false] = some ((Ex.exit 2, [AV.w (AW.one (AC.int IntKind.i64 n)), AV.w (AW.one (AC.int IntKind.i64 k))], []), (pickL [(decide (k < 2000), false)] [0])) := by kernel_rfl
structure fbT where
  n : Int
  k : Int
def fbP (n : Int) (k : Int) : Prop := 1 ≤ k ∧ k ≤ 10000 ∧ -1000000 - 366 * k ≤ n ∧ n ≤ 10000000
instance (n : Int) (k : Int) : Decidable (fbP n k) := by unfold fbP; infer_instance
def fbTm (n : Int) (k : Int) : List (Nat × AV Empty) := [(3, (.w (.one (.int .i64 n)))), (5, (.w (.one (.int .i64 k))))]
def fbS : LpSt fbT Empty where
  ps := []
  tm := fun t => fbTm t.n t.k
  hp := fun t => []
def fbNx (n : Int) (k : Int) : Nxt fbT Empty := if k < 2000 then .go ⟨n - ylV k, k + 1⟩ else .out (.exit 2) (fbTm n k) []
def fbStep (t : fbT) : Nxt fbT Empty := if fbP t.n t.k then fbNx t.n t.k else .bad
theorem fb_go {n k : Int} (h : fbP n k) : fbStep ⟨n, k⟩ = fbNx n k := if_pos h
set_option maxRecDepth 100000 in
set_option maxHeartbeats 4000000 in
theorem fb_round (t : fbT) (hb : (fbStep t).isBad = false) (rest : List (Nat × AV Empty)) : ∃ fuel path r, evC (ctxOf Tryd.prog noFacts (fun _ => false) libR1) fuel 29 (false :: [false, true, false, true, true, true]) (loopAt (bodyOf Tryd.f43) [false, true, false, true, true, true]) (fbS.tm t ++ (ptrN 0 fbS.ps ++ rest)) (numb 0 (fbS.hp t)) 0 path = some r ∧ (∀ p ∈ r.cd, p.1 = p.2) ∧ Gives fbS 0 r (fbStep t) := by
  obtain ⟨n, k⟩ := t
  by_cases ok : fbP n k
  · rw [fb_go ok]
    clear hb
    unfold fbNx
    obtain ⟨h1, h2, h3, h4⟩ := ok
    have i1 : y0B k = true := y0B_iff.2 (by omega)
    have e1 : IntKind.i64.wrap (n - 365) = n - 365 := w64 (by omega) (by omega)
    have e2 : IntKind.i64.wrap (n - 365 - 1) = n - 366 := by rw [w64 (by omega) (by omega)]; omega
    have e3 : IntKind.i64.wrap (k + 1) = k + 1 := w64 (by omega) (by omega)
    by_cases hk : k < 2000
    · have c1 : decide (k < 2000) = true := decide_eq_true hk
      rw [if_pos hk]
      by_cases hp : lpP k
      · have c2 : decide (lpP k) = true := decide_eq_true hp
        have yl : ylV k = 366 := if_pos hp
        rw [yl]
        have L := fb_11 n k rest
        rw [e1, e2, e3] at L
        refine round_go L (pickL_ok ?_ _) rfl rfl rfl rfl
        repeat' (first | exact cd_nil | refine cd_cons ?_ ?_)
        all_goals first | rfl | with_reducible assumption
      · have c2 : decide (lpP k) = false := decide_eq_false hp
        have yl : ylV k = 365 := if_neg hp
        rw [yl]
        have L := fb_10 n k rest
        rw [e1, e3] at L
        refine round_go L (pickL_ok ?_ _) rfl rfl rfl rfl
        repeat' (first | exact cd_nil | refine cd_cons ?_ ?_)
        all_goals first | rfl | with_reducible assumption
    · have c1 : decide (k < 2000) = false := decide_eq_false hk
      rw [if_neg hk]
      have L := fb_0 n k rest
      refine round_out L rfl (pickL_ok ?_ _) rfl rfl rfl
      repeat' (first | exact cd_nil | refine cd_cons ?_ ?_)
      all_goals first | rfl | with_reducible assumption
  · exfalso
    have : fbStep ⟨n, k⟩ = .bad := if_neg ok
    rw [this] at hb; cases hb
theorem fb_runs : ∀ (j : Nat) (n k : Int), 1 ≤ k → k ≤ 10000 → -1000000 - 366 * k ≤ n → n ≤ 10000000 → (2000 - k).toNat ≤ j → ∃ c, runs fbStep c ⟨n, k⟩ = some (.exit 2, fbTm (n - (nyV (mxV k) - nyV k)) (mxV k), [])
  | j, n, k, h1, h2, h3, h4, h5 => by
    by_cases hk : k < 2000
    · cases j with
      | zero => omega
      | succ j =>
        have yl := yl_in k
        have st := ny_step k
        obtain ⟨c, hc⟩ := fb_runs j (n - ylV k) (k + 1) (by omega) (by omega) (by omega) (by omega) (by omega)
        refine ⟨c + 1, ?_⟩
        rw [runs, fb_go ⟨h1, h2, h3, h4⟩]
        unfold fbNx
        rw [if_pos hk]
        have e1 : mxV k = 2000 := if_neg (by omega)
        have e2 : mxV (k + 1) = 2000 := by unfold mxV; split <;> omega
        rw [e2, show n - ylV k - (nyV 2000 - nyV (k + 1)) = n - (nyV 2000 - nyV k) by omega] at hc
        rw [e1]
        exact hc
    · have e : mxV k = k := if_pos (by omega)
      refine ⟨1, ?_⟩
      rw [runs, fb_go ⟨h1, h2, h3, h4⟩]
      unfold fbNx
      rw [if_neg hk, e, show n - (nyV k - nyV k) = n by omega]
  termination_by j => j
def fbD : LpDef fbT Empty where
  ts := [3, 5]
  ps := []
  W := [3, 5, 18, 19, 20, 21, 22, 23, 24, 25, 26, 27]
  dec := fun vs ks => match vs, ks with
    | [.w (.one (.int .i64 n)), .w (.one (.int .i64 k))], [] => some ⟨n, k⟩
    | _, _ => none
  spec := fun t => some ((.exit 2), fbTm (t.n - (nyV (mxV t.k) - nyV t.k)) (mxV t.k), [], [(decide (fbP t.n t.k), true)])
theorem fbD_ok (x : Code) (hx : codeAt (bodyOf Tryd.f43) [false, true, false, true, true, true] = some (.loop x)) : LpOk Tryd.prog noFacts 29 x (fbD.sp (fun _ => false)) := by
  obtain rfl := loopAt_eq hx
  refine lp_ok (c := ctxOf Tryd.prog noFacts (fun _ => false) libR1) (ctxOf_ok (libR1_ok _) (eq_none _)) (by kernel_rfl) hx lps_nil (S := fbS) (step := fbStep) (fun _ h => by cases h) (by kernel_rfl) (by kernel_rfl) ?_ rfl (fun t e he => ?_) (fun t hb rest => fb_round t hb rest) ?_
  · intro vs ks s hv1 h hv2
    simp only [fbD] at h
    split at h
    · cases h
      exact ⟨rfl, fun e he => he⟩
    · cases h
  · simp only [fbS, fbTm, List.mem_cons, List.not_mem_nil, or_false] at he
    rcases he with rfl | rfl <;> rfl
  · intro s ex outs wb cd h hc
    obtain ⟨n, k⟩ := s
    simp only [fbD] at h
    cases h
    have := of_decide_eq_true (cd1' hc)
    obtain ⟨h1, h2, h3, h4⟩ := this
    exact fb_runs (2000 - k).toNat n k h1 h2 h3 h4 (Nat.le_refl _)
set_option maxRecDepth 100000 in
theorem rn_1 (y : Int) (m : Int) (n : Int) (k : Int) (rest : List (Nat × AV Empty)) : evView (ctxOf Tryd.prog noFacts (fun _ => false) libR2) 51 (false :: [false, true, false, true, true, true]) (loopAt (bodyOf Tryd.f23) [false, true, false, true, true, true]) ([(0, (.w (.one (.int .i64 y)))), (1, (.w (.one (.int .i64 m)))), (8, (.w (.one (.int .i64 n)))), (9, (.w (.one (.int .i64 k))))] ++ (ptrN 0 [] ++ rest)) [] 0 [0, 1, 8, 9] [true] = some ((Ex.normal, [AV.w (AW.one (AC.int IntKind.i64 y)), AV.w (AW.one (AC.int IntKind.i64 m)), AV.w (AW.one (AC.int IntKind.i64 (IntKind.i64.wrap (n + mlV y k)))), AV.w (AW.one (AC.int IntKind.i64 (IntKind.i64.wrap (k + 1))))], []), (pickL [(decide (k < m), true), (y0B y, true), (m12B k, true)] [0, 1, 2])) := by kernel_rfl
set_option maxRecDepth 100000 in
theorem rn_0 (y : Int) (m : Int) (n : Int) (k : Int) (rest : List (Nat × AV Empty)) : evView (ctxOf Tryd.prog noFacts (fun _ => false) libR2) 51 (false :: [false, true, false, true, true, true]) (loopAt (bodyOf Tryd.f23) [false, true, false, true, true, true]) ([(0, (.w (.one (.int .i64 y)))), (1, (.w (.one (.int .i64 m)))), (8, (.w (.one (.int .i64 n)))), (9, (.w (.one (.int .i64 k))))] ++ (ptrN 0 [] ++ rest)) [] 0 [0, 1, 8, 9] [false] = some ((Ex.exit 0, [AV.w (AW.one (AC.int IntKind.i64 y)), AV.w (AW.one (AC.int IntKind.i64 m)), AV.w (AW.one (AC.int IntKind.i64 n)), AV.w (AW.one (AC.int IntKind.i64 k))], []), (pickL [(decide (k < m), false)] [0])) := by kernel_rfl
structure rnT where
  y : Int
  m : Int
  n : Int
  k : Int
def rnP (y : Int) (m : Int) (n : Int) (k : Int) : Prop := 1 ≤ y ∧ y ≤ 9999 ∧ 1 ≤ k ∧ k ≤ m ∧ m ≤ 12 ∧ -10000000 ≤ n ∧ n ≤ 10000000 + 31 * k
instance (y : Int) (m : Int) (n : Int) (k : Int) : Decidable (rnP y m n k) := by unfold rnP; infer_instance
def rnTm (y : Int) (m : Int) (n : Int) (k : Int) : List (Nat × AV Empty) := [(0, (.w (.one (.int .i64 y)))), (1, (.w (.one (.int .i64 m)))), (8, (.w (.one (.int .i64 n)))), (9, (.w (.one (.int .i64 k))))]
def rnS : LpSt rnT Empty where
  ps := []
  tm := fun t => rnTm t.y t.m t.n t.k
  hp := fun t => []
def rnNx (y : Int) (m : Int) (n : Int) (k : Int) : Nxt rnT Empty := if k < m then .go ⟨y, m, n + mlV y k, k + 1⟩ else .out (.exit 0) (rnTm y m n k) []
def rnStep (t : rnT) : Nxt rnT Empty := if rnP t.y t.m t.n t.k then rnNx t.y t.m t.n t.k else .bad
theorem rn_go {y m n k : Int} (h : rnP y m n k) : rnStep ⟨y, m, n, k⟩ = rnNx y m n k := if_pos h
set_option maxRecDepth 100000 in
set_option maxHeartbeats 4000000 in
theorem rn_round (t : rnT) (hb : (rnStep t).isBad = false) (rest : List (Nat × AV Empty)) : ∃ fuel path r, evC (ctxOf Tryd.prog noFacts (fun _ => false) libR2) fuel 51 (false :: [false, true, false, true, true, true]) (loopAt (bodyOf Tryd.f23) [false, true, false, true, true, true]) (rnS.tm t ++ (ptrN 0 rnS.ps ++ rest)) (numb 0 (rnS.hp t)) 0 path = some r ∧ (∀ p ∈ r.cd, p.1 = p.2) ∧ Gives rnS 0 r (rnStep t) := by
  obtain ⟨y, m, n, k⟩ := t
  by_cases ok : rnP y m n k
  · rw [rn_go ok]
    clear hb
    unfold rnNx
    obtain ⟨h1, h2, h3, h4, h5, h6, h7⟩ := ok
    have ml := ml_in y k
    have i1 : y0B y = true := y0B_iff.2 (by omega)
    have i2 : m12B k = true := m12B_iff.2 (by omega)
    have e1 : IntKind.i64.wrap (n + mlV y k) = n + mlV y k := w64 (by omega) (by omega)
    have e2 : IntKind.i64.wrap (k + 1) = k + 1 := w64 (by omega) (by omega)
    by_cases hk : k < m
    · have c1 : decide (k < m) = true := decide_eq_true hk
      rw [if_pos hk]
      have L := rn_1 y m n k rest
      rw [e1, e2] at L
      refine round_go L (pickL_ok ?_ _) rfl rfl rfl rfl
      repeat' (first | exact cd_nil | refine cd_cons ?_ ?_)
      all_goals first | rfl | with_reducible assumption
    · have c1 : decide (k < m) = false := decide_eq_false hk
      rw [if_neg hk]
      have L := rn_0 y m n k rest
      refine round_out L rfl (pickL_ok ?_ _) rfl rfl rfl
      repeat' (first | exact cd_nil | refine cd_cons ?_ ?_)
      all_goals first | rfl | with_reducible assumption
  · exfalso
    have : rnStep ⟨y, m, n, k⟩ = .bad := if_neg ok
    rw [this] at hb; cases hb
theorem rn_runs {y : Int} (hy : 1 ≤ y ∧ y ≤ 9999) {q : Nat} (hq : q < 12) : ∀ (j i : Nat) (n : Int), i + j = q → -10000000 ≤ n → n ≤ 10000000 + 31 * ((i : Int) + 1) → ∃ c, runs rnStep c ⟨y, (q : Int) + 1, n, (i : Int) + 1⟩ = some (.exit 0, rnTm y ((q : Int) + 1) (n + (mbV y q - mbV y i)) ((q : Int) + 1), [])
  | 0, i, n, hi, h1, h2 => by
    have : i = q := by omega
    subst this
    refine ⟨1, ?_⟩
    rw [runs, rn_go ⟨hy.1, hy.2, by omega, by omega, by omega, h1, h2⟩]
    unfold rnNx
    rw [if_neg (by omega), show n + (mbV y i - mbV y i) = n by omega]
  | j + 1, i, n, hi, h1, h2 => by
    have ml := ml_in y ((i : Int) + 1)
    obtain ⟨c, hc⟩ := rn_runs hy hq j (i + 1) (n + mlV y ((i : Int) + 1)) (by omega) (by omega) (by omega)
    refine ⟨c + 1, ?_⟩
    rw [runs, rn_go ⟨hy.1, hy.2, by omega, by omega, by omega, h1, h2⟩]
    unfold rnNx
    rw [if_pos (by omega)]
    have e : mbV y (i + 1) = mbV y i + mlV y ((i : Int) + 1) := rfl
    rw [e, show n + mlV y ((i : Int) + 1) + (mbV y q - (mbV y i + mlV y ((i : Int) + 1))) = n + (mbV y q - mbV y i) by omega] at hc
    exact hc
def rnD : LpDef rnT Empty where
  ts := [0, 1, 8, 9]
  ps := []
  W := [0, 1, 8, 9, 37, 38, 39, 40, 41, 42, 43, 44, 45, 46]
  dec := fun vs ks => match vs, ks with
    | [.w (.one (.int .i64 y)), .w (.one (.int .i64 m)), .w (.one (.int .i64 n)), .w (.one (.int .i64 k))], [] => some ⟨y, m, n, k⟩
    | _, _ => none
  spec := fun t => some ((.exit 0), rnTm t.y t.m (t.n + mbV t.y (t.m - 1).toNat) t.m, [], [(decide (rnP t.y t.m t.n t.k) && decide (t.k = 1) && decide (t.n ≤ 10000000), true)])
theorem rnD_ok (x : Code) (hx : codeAt (bodyOf Tryd.f23) [false, true, false, true, true, true] = some (.loop x)) : LpOk Tryd.prog noFacts 51 x (rnD.sp (fun _ => false)) := by
  obtain rfl := loopAt_eq hx
  refine lp_ok (c := ctxOf Tryd.prog noFacts (fun _ => false) libR2) (ctxOf_ok (libR2_ok _) (eq_none _)) (by kernel_rfl) hx lps_nil (S := rnS) (step := rnStep) (fun _ h => by cases h) (by kernel_rfl) (by kernel_rfl) ?_ rfl (fun t e he => ?_) (fun t hb rest => rn_round t hb rest) ?_
  · intro vs ks s hv1 h hv2
    simp only [rnD] at h
    split at h
    · cases h
      exact ⟨rfl, fun e he => he⟩
    · cases h
  · simp only [rnS, rnTm, List.mem_cons, List.not_mem_nil, or_false] at he
    rcases he with rfl | rfl | rfl | rfl <;> rfl
  · intro s ex outs wb cd h hc
    obtain ⟨y, m, n, k⟩ := s
    simp only [rnD] at h
    cases h
    have := cd1' hc
    simp only [Bool.and_eq_true, decide_eq_true_eq] at this
    obtain ⟨⟨⟨h1, h2, h3, h4, h5, h6, h7⟩, rfl⟩, h8⟩ := this
    obtain ⟨q, rfl⟩ : ∃ q : Nat, m = (q : Int) + 1 := ⟨(m - 1).toNat, by omega⟩
    obtain ⟨c, hc⟩ := rn_runs ⟨h1, h2⟩ (q := q) (by omega) q 0 n (by omega) h6 (by omega)
    refine ⟨c, ?_⟩
    rw [show ((q : Int) + 1 - 1).toNat = q by omega]
    rw [show n + (mbV y q - mbV y 0) = n + mbV y q by simp [mbV]] at hc
    exact hc
structure raT where
  n : Int
  y : Int
def raP (n : Int) (y : Int) : Prop := 1 ≤ y ∧ y ≤ 2000 ∧ nyV 1 ≤ nyV y + n ∧ n ≤ 3000000
instance (n : Int) (y : Int) : Decidable (raP n y) := by unfold raP; infer_instance
def raTm (n : Int) (y : Int) : List (Nat × AV Empty) := [(0, (.w (.one (.int .i64 n)))), (6, (.w (.one (.int .i64 y))))]
def raS : LpSt raT Empty where
  ps := []
  tm := fun t => raTm t.n t.y
  hp := fun t => []
def raNx (n : Int) (y : Int) : Nxt raT Empty := if n < 0 then .go ⟨n + ylV (y - 1), y - 1⟩ else .out (.exit 0) (raTm n y) []
def raStep (t : raT) : Nxt raT Empty := if raP t.n t.y then raNx t.n t.y else .bad
theorem ra_go {n y : Int} (h : raP n y) : raStep ⟨n, y⟩ = raNx n y := if_pos h
theorem ra_runs {d : Int} (hd : inD d = true) (h0 : d < 0) : ∀ (j : Nat) (y : Int), dtY d ≤ y → y ≤ 2000 → (y - dtY d).toNat ≤ j → ∃ c, runs raStep c ⟨d - nyV y, y⟩ = some (.exit 0, raTm (d - nyV (dtY d)) (dtY d), [])
  | j, y, h1, h2, h3 => by
    obtain ⟨s1, s2, s3, s4⟩ := dt_span hd
    have g := (inD_iff.1 hd).1
    have b := ny_in (y := y) (by omega) (by omega)
    have m1 := ny_mono (show 1 ≤ y by omega)
    rw [ny_1] at m1
    have ok : raP (d - nyV y) y := ⟨by omega, h2, by omega, by omega⟩
    by_cases hk : y = dtY d
    · refine ⟨1, ?_⟩
      rw [runs, ra_go ok]
      unfold raNx
      subst hk
      rw [if_neg (by omega)]
    · cases j with
      | zero => omega
      | succ j =>
        have mo := ny_mono (show dtY d + 1 ≤ y by omega)
        obtain ⟨c, hc⟩ := ra_runs hd h0 j (y - 1) (by omega) (by omega) (by omega)
        refine ⟨c + 1, ?_⟩
        rw [runs, ra_go ok]
        unfold raNx
        have st := ny_step (y - 1)
        rw [show y - 1 + 1 = y by omega] at st
        rw [if_pos (by omega), show d - nyV y + ylV (y - 1) = d - nyV (y - 1) by omega]
        exact hc
  termination_by j => j
def raY (d : Int) : Int := if d < 0 then dtY d else 2000
def raD : LpDef raT Empty where
  ts := [0, 6]
  ps := []
  W := [0, 6, 17, 18, 19, 20, 21, 22, 23, 24, 25, 26]
  dec := fun vs ks => match vs, ks with
    | [.w (.one (.int .i64 n)), .w (.one (.int .i64 y))], [] => some ⟨n, y⟩
    | _, _ => none
  spec := fun t => some ((.exit 0), raTm (t.n - nyV (raY t.n)) (raY t.n), [], [(inD t.n && decide (t.y = 2000), true)])
structure rbT where
  n : Int
  y : Int
  k : Int
def rbP (n : Int) (y : Int) (k : Int) : Prop := 1 ≤ y ∧ y ≤ 9999 ∧ 0 ≤ n ∧ nyV y + n < nyV 10000 ∧ k = 365
instance (n : Int) (y : Int) (k : Int) : Decidable (rbP n y k) := by unfold rbP; infer_instance
def rbTm (n : Int) (y : Int) (k : Int) : List (Nat × AV Empty) := [(0, (.w (.one (.int .i64 n)))), (6, (.w (.one (.int .i64 y)))), (7, (.w (.one (.int .i64 k))))]
def rbS : LpSt rbT Empty where
  ps := []
  tm := fun t => rbTm t.n t.y t.k
  hp := fun t => []
def rbNx (n : Int) (y : Int) (k : Int) : Nxt rbT Empty := if n < ylV y then .out (.exit 2) (rbTm n y (ylV y)) [] else .go ⟨n - ylV y, y + 1, 365⟩
def rbStep (t : rbT) : Nxt rbT Empty := if rbP t.n t.y t.k then rbNx t.n t.y t.k else .bad
theorem rb_go {n y k : Int} (h : rbP n y k) : rbStep ⟨n, y, k⟩ = rbNx n y k := if_pos h
theorem rb_runs {d : Int} (hd : inD d = true) : ∀ (j : Nat) (y : Int), 1 ≤ y → y ≤ dtY d → (dtY d - y).toNat ≤ j → ∃ c, runs rbStep c ⟨d - nyV y, y, 365⟩ = some (.exit 2, rbTm (d - nyV (dtY d)) (dtY d) (ylV (dtY d)), [])
  | j, y, h1, h2, h3 => by
    obtain ⟨s1, s2, s3, s4⟩ := dt_span hd
    have g := (inD_iff.1 hd).2
    have st := ny_step y
    have mo := ny_mono h2
    have ok : rbP (d - nyV y) y 365 := ⟨h1, by omega, by omega, by omega, rfl⟩
    by_cases hk : y = dtY d
    · refine ⟨1, ?_⟩
      rw [runs, rb_go ok]
      unfold rbNx
      subst hk
      rw [if_pos (by omega)]
    · cases j with
      | zero => omega
      | succ j =>
        have m2 := ny_mono (show y + 1 ≤ dtY d by omega)
        obtain ⟨c, hc⟩ := rb_runs hd j (y + 1) (by omega) (by omega) (by omega)
        refine ⟨c + 1, ?_⟩
        rw [runs, rb_go ok]
        unfold rbNx
        rw [if_neg (by omega), show d - nyV y - ylV y = d - nyV (y + 1) by omega]
        exact hc
  termination_by j => j
def rbD : LpDef rbT Empty where
  ts := [0, 6, 7]
  ps := []
  W := [0, 6, 7, 27, 28, 29, 30, 31, 32, 33, 34, 35, 36, 37, 38]
  dec := fun vs ks => match vs, ks with
    | [.w (.one (.int .i64 n)), .w (.one (.int .i64 y)), .w (.one (.int .i64 k))], [] => some ⟨n, y, k⟩
    | _, _ => none
  spec := fun t => some ((.exit 2), rbTm (nyV t.y + t.n - nyV (dtY (nyV t.y + t.n))) (dtY (nyV t.y + t.n)) (ylV (dtY (nyV t.y + t.n))), [], [(inD (nyV t.y + t.n) && decide (1 ≤ t.y) && decide (0 ≤ t.n) && decide (t.k = 365), true)])
structure rcT where
  n : Int
  y : Int
  m : Int
def rcP (n : Int) (y : Int) (m : Int) : Prop := 1 ≤ y ∧ y ≤ 9999 ∧ 1 ≤ m ∧ m ≤ 12 ∧ 0 ≤ n ∧ n ≤ 400
instance (n : Int) (y : Int) (m : Int) : Decidable (rcP n y m) := by unfold rcP; infer_instance
def rcTm (n : Int) (y : Int) (m : Int) : List (Nat × AV Empty) := [(0, (.w (.one (.int .i64 n)))), (6, (.w (.one (.int .i64 y)))), (8, (.w (.one (.int .i64 m))))]
def rcS : LpSt rcT Empty where
  ps := []
  tm := fun t => rcTm t.n t.y t.m
  hp := fun t => []
def rcNx (n : Int) (y : Int) (m : Int) : Nxt rcT Empty := if mlV y m ≤ n then .go ⟨n - mlV y m, y, m + 1⟩ else .out (.exit 4) (rcTm n y m) []
def rcStep (t : rcT) : Nxt rcT Empty := if rcP t.n t.y t.m then rcNx t.n t.y t.m else .bad
theorem rc_go {n y m : Int} (h : rcP n y m) : rcStep ⟨n, y, m⟩ = rcNx n y m := if_pos h
theorem rc_runs {y d : Int} (hy : 1 ≤ y ∧ y ≤ 9999) {q : Nat} (hq : q < 12) (h0 : 1 ≤ d) (h1 : d ≤ mlV y ((q : Int) + 1)) : ∀ (j i : Nat) (n : Int), i + j = q → n = mbV y q - mbV y i + d - 1 → ∃ c, runs rcStep c ⟨n, y, (i : Int) + 1⟩ = some (.exit 4, rcTm (d - 1) y ((q : Int) + 1), [])
  | 0, i, n, hi, hr => by
    have : i = q := by omega
    subst this
    have ml := ml_in y ((i : Int) + 1)
    refine ⟨1, ?_⟩
    rw [runs, rc_go ⟨hy.1, hy.2, by omega, by omega, by omega, by omega⟩]
    unfold rcNx
    rw [if_neg (by omega), show n = d - 1 by omega]
  | j + 1, i, n, hi, hr => by
    have ml := ml_in y ((i : Int) + 1)
    have ml' := ml_in y ((q : Int) + 1)
    have e : mbV y (i + 1) = mbV y i + mlV y ((i : Int) + 1) := rfl
    have mo := mb_mono y (a := i + 1) (b := q) (by omega)
    have m2 := mb_in y q
    have m3 := mb_in y i
    obtain ⟨c, hc⟩ := rc_runs hy hq h0 h1 j (i + 1) (n - mlV y ((i : Int) + 1)) (by omega) (by omega)
    refine ⟨c + 1, ?_⟩
    rw [runs, rc_go ⟨hy.1, hy.2, by omega, by omega, by omega, by omega⟩]
    unfold rcNx
    rw [if_pos (by omega)]
    exact hc
def rcD : LpDef rcT Empty where
  ts := [0, 6, 8]
  ps := []
  W := [0, 6, 8, 39, 40, 41, 42, 43, 44, 45, 46, 47, 48, 49, 50]
  dec := fun vs ks => match vs, ks with
    | [.w (.one (.int .i64 n)), .w (.one (.int .i64 y)), .w (.one (.int .i64 m))], [] => some ⟨n, y, m⟩
    | _, _ => none
  spec := fun t => some ((.exit 4), rcTm (dtD (nyV t.y + t.n) - 1) t.y (dtM (nyV t.y + t.n)), [], [(decide (1 ≤ t.y) && decide (t.y ≤ 9999) && decide (t.m = 1) && decide (0 ≤ t.n) && decide (t.n < ylV t.y), true)])
end
end Go.Proofs.YtokkaeaciigapaaDoor

