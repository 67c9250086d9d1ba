/-
  The walk of spykeep1.ScaleDays: it returns true, for every number.
  Conditions: the number is an int64.
-/
import Derived.Test.YtoaoifiklnbknabD5
import Derived.Test.YtoaoifiklnbknabST
set_option linter.unusedVariables false
set_option linter.unusedSimpArgs false
namespace Go.Proofs.Ytoaoifiklnbknab
open Go.RowKit Ev Wd Sc
noncomputable section

noncomputable abbrev libSD : List (Nat × FnSp Empty) := [(18, sp0 (.w (.one (.yes true)))), (7, sp2 (dInt .i64) (dInt .i64) (fun x n => aInt .i64 (belowV x n)) (fun x n => [(i64B x, true), (i64B n, true)])), (17, dateS), (19, daysS)]
theorem libSD_ok : LibOk Try.prog noFacts (lib1 libSD) := lib1_cons (sp0_ok rfl sfact_pl) Try.call18 (lib1_cons (sp2_ok fun x n hc => ⟨_, rfl, below_pl x n (cd2 hc).2⟩) Try.call7 (lib1_cons (dateS_ok _) Try.call17 (lib1_cons (daysS_ok _) Try.call19 (lib1_nil _ _))))
set_option maxRecDepth 100000 in
theorem sd_0011111 (n : Int) : evR (ctxOf Try.prog noFacts (fun _ => false) libSD) Try.f4 [(.w (.one (.int .i64 n)))] [false, false, true, true, true, true, true] = some (AV.w (AW.one (AC.yes true)), (pickL [(i64B n, true), (i64B 3600000, true), (!true, false), (dtE (IntKind.i64.wrap (belowV n 3600000 - 700000)) != 0, false), (dtE (IntKind.i64.wrap (IntKind.i64.wrap (belowV n 3600000 - 700000) + 1)) != 0, false), (dtY (IntKind.i64.wrap (IntKind.i64.wrap (belowV n 3600000 - 700000) + 1)) == dtY (IntKind.i64.wrap (belowV n 3600000 - 700000)), true), (dtM (IntKind.i64.wrap (IntKind.i64.wrap (belowV n 3600000 - 700000) + 1)) == dtM (IntKind.i64.wrap (belowV n 3600000 - 700000)), true), (dtD (IntKind.i64.wrap (IntKind.i64.wrap (belowV n 3600000 - 700000) + 1)) == IntKind.i64.wrap (dtD (IntKind.i64.wrap (belowV n 3600000 - 700000)) + 1), true), (dnE (dtY (IntKind.i64.wrap (belowV n 3600000 - 700000))) (dtM (IntKind.i64.wrap (belowV n 3600000 - 700000))) (dtD (IntKind.i64.wrap (belowV n 3600000 - 700000))) == 0, true), (dnV (dtY (IntKind.i64.wrap (belowV n 3600000 - 700000))) (dtM (IntKind.i64.wrap (belowV n 3600000 - 700000))) (dtD (IntKind.i64.wrap (belowV n 3600000 - 700000))) == IntKind.i64.wrap (belowV n 3600000 - 700000), true)] [0, 1, 2, 3, 3, 3, 4, 5, 5, 5, 5, 6, 6, 6, 6, 6, 7, 7, 7, 7, 7, 7, 7, 8, 8, 8, 8, 9, 9])) := by kernel_rfl
set_option maxRecDepth 100000 in
theorem sd_00110111111 (n : Int) : evR (ctxOf Try.prog noFacts (fun _ => false) libSD) Try.f4 [(.w (.one (.int .i64 n)))] [false, false, true, true, false, true, true, true, true, true, true] = some (AV.w (AW.one (AC.yes true)), (pickL [(i64B n, true), (i64B 3600000, true), (!true, false), (dtE (IntKind.i64.wrap (belowV n 3600000 - 700000)) != 0, false), (dtE (IntKind.i64.wrap (IntKind.i64.wrap (belowV n 3600000 - 700000) + 1)) != 0, false), (dtY (IntKind.i64.wrap (IntKind.i64.wrap (belowV n 3600000 - 700000) + 1)) == dtY (IntKind.i64.wrap (belowV n 3600000 - 700000)), true), (dtM (IntKind.i64.wrap (IntKind.i64.wrap (belowV n 3600000 - 700000) + 1)) == dtM (IntKind.i64.wrap (belowV n 3600000 - 700000)), true), (dtD (IntKind.i64.wrap (IntKind.i64.wrap (belowV n 3600000 - 700000) + 1)) == IntKind.i64.wrap (dtD (IntKind.i64.wrap (belowV n 3600000 - 700000)) + 1), false), (dtD (IntKind.i64.wrap (IntKind.i64.wrap (belowV n 3600000 - 700000) + 1)) == 1, true), (decide (dtD (IntKind.i64.wrap (belowV n 3600000 - 700000)) ≥ 28), true), (dtM (IntKind.i64.wrap (IntKind.i64.wrap (belowV n 3600000 - 700000) + 1)) == IntKind.i64.wrap (dtM (IntKind.i64.wrap (belowV n 3600000 - 700000)) + 1), true), (dnE (dtY (IntKind.i64.wrap (belowV n 3600000 - 700000))) (dtM (IntKind.i64.wrap (belowV n 3600000 - 700000))) (dtD (IntKind.i64.wrap (belowV n 3600000 - 700000))) == 0, true), (dnV (dtY (IntKind.i64.wrap (belowV n 3600000 - 700000))) (dtM (IntKind.i64.wrap (belowV n 3600000 - 700000))) (dtD (IntKind.i64.wrap (belowV n 3600000 - 700000))) == IntKind.i64.wrap (belowV n 3600000 - 700000), true)] [0, 1, 2, 3, 3, 3, 4, 5, 5, 5, 5, 6, 6, 6, 6, 6, 7, 7, 7, 8, 8, 7, 8, 7, 9, 9, 9, 9, 5, 5, 5, 5, 9, 5, 9, 10, 10, 10, 10, 10, 10, 10, 10, 10, 10, 9, 10, 7, 9, 7, 11, 11, 11, 11, 12, 12])) := by kernel_rfl
set_option maxRecDepth 100000 in
theorem sd_00110111011111 (n : Int) : evR (ctxOf Try.prog noFacts (fun _ => false) libSD) Try.f4 [(.w (.one (.int .i64 n)))] [false, false, true, true, false, true, true, true, false, true, true, true, true, true] = some (AV.w (AW.one (AC.bool (dtD (IntKind.i64.wrap (belowV n 3600000 - 700000)) == 31))), (pickL [(i64B n, true), (i64B 3600000, true), (!true, false), (dtE (IntKind.i64.wrap (belowV n 3600000 - 700000)) != 0, false), (dtE (IntKind.i64.wrap (IntKind.i64.wrap (belowV n 3600000 - 700000) + 1)) != 0, false), (dtY (IntKind.i64.wrap (IntKind.i64.wrap (belowV n 3600000 - 700000) + 1)) == dtY (IntKind.i64.wrap (belowV n 3600000 - 700000)), true), (dtM (IntKind.i64.wrap (IntKind.i64.wrap (belowV n 3600000 - 700000) + 1)) == dtM (IntKind.i64.wrap (belowV n 3600000 - 700000)), true), (dtD (IntKind.i64.wrap (IntKind.i64.wrap (belowV n 3600000 - 700000) + 1)) == IntKind.i64.wrap (dtD (IntKind.i64.wrap (belowV n 3600000 - 700000)) + 1), false), (dtD (IntKind.i64.wrap (IntKind.i64.wrap (belowV n 3600000 - 700000) + 1)) == 1, true), (decide (dtD (IntKind.i64.wrap (belowV n 3600000 - 700000)) ≥ 28), true), (dtM (IntKind.i64.wrap (IntKind.i64.wrap (belowV n 3600000 - 700000) + 1)) == IntKind.i64.wrap (dtM (IntKind.i64.wrap (belowV n 3600000 - 700000)) + 1), false), (dtY (IntKind.i64.wrap (IntKind.i64.wrap (belowV n 3600000 - 700000) + 1)) == IntKind.i64.wrap (dtY (IntKind.i64.wrap (belowV n 3600000 - 700000)) + 1), true), (dtM (IntKind.i64.wrap (IntKind.i64.wrap (belowV n 3600000 - 700000) + 1)) == 1, true), (dtM (IntKind.i64.wrap (belowV n 3600000 - 700000)) == 12, true), (dnE (dtY (IntKind.i64.wrap (belowV n 3600000 - 700000))) (dtM (IntKind.i64.wrap (belowV n 3600000 - 700000))) (dtD (IntKind.i64.wrap (belowV n 3600000 - 700000))) == 0, true), (dnV (dtY (IntKind.i64.wrap (belowV n 3600000 - 700000))) (dtM (IntKind.i64.wrap (belowV n 3600000 - 700000))) (dtD (IntKind.i64.wrap (belowV n 3600000 - 700000))) == IntKind.i64.wrap (belowV n 3600000 - 700000), true)] [0, 1, 2, 3, 3, 3, 4, 5, 5, 5, 5, 6, 6, 6, 6, 6, 7, 7, 7, 8, 8, 7, 8, 7, 9, 9, 9, 9, 5, 5, 5, 5, 9, 5, 9, 10, 10, 10, 10, 10, 11, 11, 10, 11, 10, 12, 12, 10, 12, 10, 13, 13, 10, 13, 9, 10, 7, 9, 7, 14, 14, 14, 14, 15, 15])) := by kernel_rfl
set_option maxRecDepth 100000 in
theorem sd_00110111011011 (n : Int) : evR (ctxOf Try.prog noFacts (fun _ => false) libSD) Try.f4 [(.w (.one (.int .i64 n)))] [false, false, true, true, false, true, true, true, false, true, true, false, true, true] = some (AV.w (AW.one (AC.yes false)), (pickL [(i64B n, true), (i64B 3600000, true), (!true, false), (dtE (IntKind.i64.wrap (belowV n 3600000 - 700000)) != 0, false), (dtE (IntKind.i64.wrap (IntKind.i64.wrap (belowV n 3600000 - 700000) + 1)) != 0, false), (dtY (IntKind.i64.wrap (IntKind.i64.wrap (belowV n 3600000 - 700000) + 1)) == dtY (IntKind.i64.wrap (belowV n 3600000 - 700000)), true), (dtM (IntKind.i64.wrap (IntKind.i64.wrap (belowV n 3600000 - 700000) + 1)) == dtM (IntKind.i64.wrap (belowV n 3600000 - 700000)), true), (dtD (IntKind.i64.wrap (IntKind.i64.wrap (belowV n 3600000 - 700000) + 1)) == IntKind.i64.wrap (dtD (IntKind.i64.wrap (belowV n 3600000 - 700000)) + 1), false), (dtD (IntKind.i64.wrap (IntKind.i64.wrap (belowV n 3600000 - 700000) + 1)) == 1, true), (decide (dtD (IntKind.i64.wrap (belowV n 3600000 - 700000)) ≥ 28), true), (dtM (IntKind.i64.wrap (IntKind.i64.wrap (belowV n 3600000 - 700000) + 1)) == IntKind.i64.wrap (dtM (IntKind.i64.wrap (belowV n 3600000 - 700000)) + 1), false), (dtY (IntKind.i64.wrap (IntKind.i64.wrap (belowV n 3600000 - 700000) + 1)) == IntKind.i64.wrap (dtY (IntKind.i64.wrap (belowV n 3600000 - 700000)) + 1), true), (dtM (IntKind.i64.wrap (IntKind.i64.wrap (belowV n 3600000 - 700000) + 1)) == 1, true), (dtM (IntKind.i64.wrap (belowV n 3600000 - 700000)) == 12, false), (dnE (dtY (IntKind.i64.wrap (belowV n 3600000 - 700000))) (dtM (IntKind.i64.wrap (belowV n 3600000 - 700000))) (dtD (IntKind.i64.wrap (belowV n 3600000 - 700000))) == 0, true), (dnV (dtY (IntKind.i64.wrap (belowV n 3600000 - 700000))) (dtM (IntKind.i64.wrap (belowV n 3600000 - 700000))) (dtD (IntKind.i64.wrap (belowV n 3600000 - 700000))) == IntKind.i64.wrap (belowV n 3600000 - 700000), true)] [0, 1, 2, 3, 3, 3, 4, 5, 5, 5, 5, 6, 6, 6, 6, 6, 7, 7, 7, 8, 8, 7, 8, 7, 9, 9, 9, 9, 5, 5, 5, 5, 9, 5, 9, 10, 10, 10, 10, 10, 11, 11, 10, 11, 10, 12, 12, 10, 12, 10, 13, 13, 10, 13, 9, 10, 7, 9, 7, 14, 14, 14, 14, 15, 15])) := by kernel_rfl
set_option maxRecDepth 100000 in
theorem sd_0011011101011 (n : Int) : evR (ctxOf Try.prog noFacts (fun _ => false) libSD) Try.f4 [(.w (.one (.int .i64 n)))] [false, false, true, true, false, true, true, true, false, true, false, true, true] = some (AV.w (AW.one (AC.yes false)), (pickL [(i64B n, true), (i64B 3600000, true), (!true, false), (dtE (IntKind.i64.wrap (belowV n 3600000 - 700000)) != 0, false), (dtE (IntKind.i64.wrap (IntKind.i64.wrap (belowV n 3600000 - 700000) + 1)) != 0, false), (dtY (IntKind.i64.wrap (IntKind.i64.wrap (belowV n 3600000 - 700000) + 1)) == dtY (IntKind.i64.wrap (belowV n 3600000 - 700000)), true), (dtM (IntKind.i64.wrap (IntKind.i64.wrap (belowV n 3600000 - 700000) + 1)) == dtM (IntKind.i64.wrap (belowV n 3600000 - 700000)), true), (dtD (IntKind.i64.wrap (IntKind.i64.wrap (belowV n 3600000 - 700000) + 1)) == IntKind.i64.wrap (dtD (IntKind.i64.wrap (belowV n 3600000 - 700000)) + 1), false), (dtD (IntKind.i64.wrap (IntKind.i64.wrap (belowV n 3600000 - 700000) + 1)) == 1, true), (decide (dtD (IntKind.i64.wrap (belowV n 3600000 - 700000)) ≥ 28), true), (dtM (IntKind.i64.wrap (IntKind.i64.wrap (belowV n 3600000 - 700000) + 1)) == IntKind.i64.wrap (dtM (IntKind.i64.wrap (belowV n 3600000 - 700000)) + 1), false), (dtY (IntKind.i64.wrap (IntKind.i64.wrap (belowV n 3600000 - 700000) + 1)) == IntKind.i64.wrap (dtY (IntKind.i64.wrap (belowV n 3600000 - 700000)) + 1), true), (dtM (IntKind.i64.wrap (IntKind.i64.wrap (belowV n 3600000 - 700000) + 1)) == 1, false), (false, false), (dnE (dtY (IntKind.i64.wrap (belowV n 3600000 - 700000))) (dtM (IntKind.i64.wrap (belowV n 3600000 - 700000))) (dtD (IntKind.i64.wrap (belowV n 3600000 - 700000))) == 0, true), (dnV (dtY (IntKind.i64.wrap (belowV n 3600000 - 700000))) (dtM (IntKind.i64.wrap (belowV n 3600000 - 700000))) (dtD (IntKind.i64.wrap (belowV n 3600000 - 700000))) == IntKind.i64.wrap (belowV n 3600000 - 700000), true)] [0, 1, 2, 3, 3, 3, 4, 5, 5, 5, 5, 6, 6, 6, 6, 6, 7, 7, 7, 8, 8, 7, 8, 7, 9, 9, 9, 9, 5, 5, 5, 5, 9, 5, 9, 10, 10, 10, 10, 10, 11, 11, 10, 11, 10, 12, 12, 10, 12, 10, 13, 13, 10, 13, 9, 10, 7, 9, 7, 14, 14, 14, 14, 15, 15])) := by kernel_rfl
set_option maxRecDepth 100000 in
theorem sd_001101110011 (n : Int) : evR (ctxOf Try.prog noFacts (fun _ => false) libSD) Try.f4 [(.w (.one (.int .i64 n)))] [false, false, true, true, false, true, true, true, false, false, true, true] = some (AV.w (AW.one (AC.yes false)), (pickL [(i64B n, true), (i64B 3600000, true), (!true, false), (dtE (IntKind.i64.wrap (belowV n 3600000 - 700000)) != 0, false), (dtE (IntKind.i64.wrap (IntKind.i64.wrap (belowV n 3600000 - 700000) + 1)) != 0, false), (dtY (IntKind.i64.wrap (IntKind.i64.wrap (belowV n 3600000 - 700000) + 1)) == dtY (IntKind.i64.wrap (belowV n 3600000 - 700000)), true), (dtM (IntKind.i64.wrap (IntKind.i64.wrap (belowV n 3600000 - 700000) + 1)) == dtM (IntKind.i64.wrap (belowV n 3600000 - 700000)), true), (dtD (IntKind.i64.wrap (IntKind.i64.wrap (belowV n 3600000 - 700000) + 1)) == IntKind.i64.wrap (dtD (IntKind.i64.wrap (belowV n 3600000 - 700000)) + 1), false), (dtD (IntKind.i64.wrap (IntKind.i64.wrap (belowV n 3600000 - 700000) + 1)) == 1, true), (decide (dtD (IntKind.i64.wrap (belowV n 3600000 - 700000)) ≥ 28), true), (dtM (IntKind.i64.wrap (IntKind.i64.wrap (belowV n 3600000 - 700000) + 1)) == IntKind.i64.wrap (dtM (IntKind.i64.wrap (belowV n 3600000 - 700000)) + 1), false), (dtY (IntKind.i64.wrap (IntKind.i64.wrap (belowV n 3600000 - 700000) + 1)) == IntKind.i64.wrap (dtY (IntKind.i64.wrap (belowV n 3600000 - 700000)) + 1), false), (false, false), (dnE (dtY (IntKind.i64.wrap (belowV n 3600000 - 700000))) (dtM (IntKind.i64.wrap (belowV n 3600000 - 700000))) (dtD (IntKind.i64.wrap (belowV n 3600000 - 700000))) == 0, true), (dnV (dtY (IntKind.i64.wrap (belowV n 3600000 - 700000))) (dtM (IntKind.i64.wrap (belowV n 3600000 - 700000))) (dtD (IntKind.i64.wrap (belowV n 3600000 - 700000))) == IntKind.i64.wrap (belowV n 3600000 - 700000), true)] [0, 1, 2, 3, 3, 3, 4, 5, 5, 5, 5, 6, 6, 6, 6, 6, 7, 7, 7, 8, 8, 7, 8, 7, 9, 9, 9, 9, 5, 5, 5, 5, 9, 5, 9, 10, 10, 10, 10, 10, 11, 11, 10, 11, 10, 12, 12, 10, 12, 10, 12, 12, 10, 12, 9, 10, 7, 9, 7, 13, 13, 13, 13, 14, 14])) := by kernel_rfl
set_option maxRecDepth 100000 in
theorem sd_001101011 (n : Int) : evR (ctxOf Try.prog noFacts (fun _ => false) libSD) Try.f4 [(.w (.one (.int .i64 n)))] [false, false, true, true, false, true, false, true, true] = some (AV.w (AW.one (AC.yes false)), (pickL [(i64B n, true), (i64B 3600000, true), (!true, false), (dtE (IntKind.i64.wrap (belowV n 3600000 - 700000)) != 0, false), (dtE (IntKind.i64.wrap (IntKind.i64.wrap (belowV n 3600000 - 700000) + 1)) != 0, false), (dtY (IntKind.i64.wrap (IntKind.i64.wrap (belowV n 3600000 - 700000) + 1)) == dtY (IntKind.i64.wrap (belowV n 3600000 - 700000)), true), (dtM (IntKind.i64.wrap (IntKind.i64.wrap (belowV n 3600000 - 700000) + 1)) == dtM (IntKind.i64.wrap (belowV n 3600000 - 700000)), true), (dtD (IntKind.i64.wrap (IntKind.i64.wrap (belowV n 3600000 - 700000) + 1)) == IntKind.i64.wrap (dtD (IntKind.i64.wrap (belowV n 3600000 - 700000)) + 1), false), (dtD (IntKind.i64.wrap (IntKind.i64.wrap (belowV n 3600000 - 700000) + 1)) == 1, true), (decide (dtD (IntKind.i64.wrap (belowV n 3600000 - 700000)) ≥ 28), false), (dnE (dtY (IntKind.i64.wrap (belowV n 3600000 - 700000))) (dtM (IntKind.i64.wrap (belowV n 3600000 - 700000))) (dtD (IntKind.i64.wrap (belowV n 3600000 - 700000))) == 0, true), (dnV (dtY (IntKind.i64.wrap (belowV n 3600000 - 700000))) (dtM (IntKind.i64.wrap (belowV n 3600000 - 700000))) (dtD (IntKind.i64.wrap (belowV n 3600000 - 700000))) == IntKind.i64.wrap (belowV n 3600000 - 700000), true)] [0, 1, 2, 3, 3, 3, 4, 5, 5, 5, 5, 6, 6, 6, 6, 6, 7, 7, 7, 8, 8, 7, 8, 7, 9, 9, 9, 9, 9, 9, 9, 7, 9, 7, 10, 10, 10, 10, 11, 11])) := by kernel_rfl
set_option maxRecDepth 100000 in
theorem sd_00110011 (n : Int) : evR (ctxOf Try.prog noFacts (fun _ => false) libSD) Try.f4 [(.w (.one (.int .i64 n)))] [false, false, true, true, false, false, true, true] = some (AV.w (AW.one (AC.yes false)), (pickL [(i64B n, true), (i64B 3600000, true), (!true, false), (dtE (IntKind.i64.wrap (belowV n 3600000 - 700000)) != 0, false), (dtE (IntKind.i64.wrap (IntKind.i64.wrap (belowV n 3600000 - 700000) + 1)) != 0, false), (dtY (IntKind.i64.wrap (IntKind.i64.wrap (belowV n 3600000 - 700000) + 1)) == dtY (IntKind.i64.wrap (belowV n 3600000 - 700000)), true), (dtM (IntKind.i64.wrap (IntKind.i64.wrap (belowV n 3600000 - 700000) + 1)) == dtM (IntKind.i64.wrap (belowV n 3600000 - 700000)), true), (dtD (IntKind.i64.wrap (IntKind.i64.wrap (belowV n 3600000 - 700000) + 1)) == IntKind.i64.wrap (dtD (IntKind.i64.wrap (belowV n 3600000 - 700000)) + 1), false), (dtD (IntKind.i64.wrap (IntKind.i64.wrap (belowV n 3600000 - 700000) + 1)) == 1, false), (false, false), (dnE (dtY (IntKind.i64.wrap (belowV n 3600000 - 700000))) (dtM (IntKind.i64.wrap (belowV n 3600000 - 700000))) (dtD (IntKind.i64.wrap (belowV n 3600000 - 700000))) == 0, true), (dnV (dtY (IntKind.i64.wrap (belowV n 3600000 - 700000))) (dtM (IntKind.i64.wrap (belowV n 3600000 - 700000))) (dtD (IntKind.i64.wrap (belowV n 3600000 - 700000))) == IntKind.i64.wrap (belowV n 3600000 - 700000), true)] [0, 1, 2, 3, 3, 3, 4, 5, 5, 5, 5, 6, 6, 6, 6, 6, 7, 7, 7, 8, 8, 7, 8, 7, 9, 9, 9, 9, 9, 9, 9, 7, 9, 7, 10, 10, 10, 10, 11, 11])) := by kernel_rfl
set_option maxRecDepth 100000 in
theorem sd_0010111111 (n : Int) : evR (ctxOf Try.prog noFacts (fun _ => false) libSD) Try.f4 [(.w (.one (.int .i64 n)))] [false, false, true, false, true, true, true, true, true, true] = some (AV.w (AW.one (AC.yes true)), (pickL [(i64B n, true), (i64B 3600000, true), (!true, false), (dtE (IntKind.i64.wrap (belowV n 3600000 - 700000)) != 0, false), (dtE (IntKind.i64.wrap (IntKind.i64.wrap (belowV n 3600000 - 700000) + 1)) != 0, false), (dtY (IntKind.i64.wrap (IntKind.i64.wrap (belowV n 3600000 - 700000) + 1)) == dtY (IntKind.i64.wrap (belowV n 3600000 - 700000)), true), (dtM (IntKind.i64.wrap (IntKind.i64.wrap (belowV n 3600000 - 700000) + 1)) == dtM (IntKind.i64.wrap (belowV n 3600000 - 700000)), false), (false, false), (dtD (IntKind.i64.wrap (IntKind.i64.wrap (belowV n 3600000 - 700000) + 1)) == 1, true), (decide (dtD (IntKind.i64.wrap (belowV n 3600000 - 700000)) ≥ 28), true), (dtM (IntKind.i64.wrap (IntKind.i64.wrap (belowV n 3600000 - 700000) + 1)) == IntKind.i64.wrap (dtM (IntKind.i64.wrap (belowV n 3600000 - 700000)) + 1), true), (dnE (dtY (IntKind.i64.wrap (belowV n 3600000 - 700000))) (dtM (IntKind.i64.wrap (belowV n 3600000 - 700000))) (dtD (IntKind.i64.wrap (belowV n 3600000 - 700000))) == 0, true), (dnV (dtY (IntKind.i64.wrap (belowV n 3600000 - 700000))) (dtM (IntKind.i64.wrap (belowV n 3600000 - 700000))) (dtD (IntKind.i64.wrap (belowV n 3600000 - 700000))) == IntKind.i64.wrap (belowV n 3600000 - 700000), true)] [0, 1, 2, 3, 3, 3, 4, 5, 5, 5, 5, 6, 6, 6, 6, 6, 7, 7, 7, 8, 8, 7, 8, 7, 9, 9, 9, 9, 5, 5, 5, 5, 9, 5, 9, 10, 10, 10, 10, 10, 10, 10, 10, 10, 10, 9, 10, 7, 9, 7, 11, 11, 11, 11, 12, 12])) := by kernel_rfl
set_option maxRecDepth 100000 in
theorem sd_0010111011111 (n : Int) : evR (ctxOf Try.prog noFacts (fun _ => false) libSD) Try.f4 [(.w (.one (.int .i64 n)))] [false, false, true, false, true, true, true, false, true, true, true, true, true] = some (AV.w (AW.one (AC.bool (dtD (IntKind.i64.wrap (belowV n 3600000 - 700000)) == 31))), (pickL [(i64B n, true), (i64B 3600000, true), (!true, false), (dtE (IntKind.i64.wrap (belowV n 3600000 - 700000)) != 0, false), (dtE (IntKind.i64.wrap (IntKind.i64.wrap (belowV n 3600000 - 700000) + 1)) != 0, false), (dtY (IntKind.i64.wrap (IntKind.i64.wrap (belowV n 3600000 - 700000) + 1)) == dtY (IntKind.i64.wrap (belowV n 3600000 - 700000)), true), (dtM (IntKind.i64.wrap (IntKind.i64.wrap (belowV n 3600000 - 700000) + 1)) == dtM (IntKind.i64.wrap (belowV n 3600000 - 700000)), false), (false, false), (dtD (IntKind.i64.wrap (IntKind.i64.wrap (belowV n 3600000 - 700000) + 1)) == 1, true), (decide (dtD (IntKind.i64.wrap (belowV n 3600000 - 700000)) ≥ 28), true), (dtM (IntKind.i64.wrap (IntKind.i64.wrap (belowV n 3600000 - 700000) + 1)) == IntKind.i64.wrap (dtM (IntKind.i64.wrap (belowV n 3600000 - 700000)) + 1), false), (dtY (IntKind.i64.wrap (IntKind.i64.wrap (belowV n 3600000 - 700000) + 1)) == IntKind.i64.wrap (dtY (IntKind.i64.wrap (belowV n 3600000 - 700000)) + 1), true), (dtM (IntKind.i64.wrap (IntKind.i64.wrap (belowV n 3600000 - 700000) + 1)) == 1, true), (dtM (IntKind.i64.wrap (belowV n 3600000 - 700000)) == 12, true), (dnE (dtY (IntKind.i64.wrap (belowV n 3600000 - 700000))) (dtM (IntKind.i64.wrap (belowV n 3600000 - 700000))) (dtD (IntKind.i64.wrap (belowV n 3600000 - 700000))) == 0, true), (dnV (dtY (IntKind.i64.wrap (belowV n 3600000 - 700000))) (dtM (IntKind.i64.wrap (belowV n 3600000 - 700000))) (dtD (IntKind.i64.wrap (belowV n 3600000 - 700000))) == IntKind.i64.wrap (belowV n 3600000 - 700000), true)] [0, 1, 2, 3, 3, 3, 4, 5, 5, 5, 5, 6, 6, 6, 6, 6, 7, 7, 7, 8, 8, 7, 8, 7, 9, 9, 9, 9, 5, 5, 5, 5, 9, 5, 9, 10, 10, 10, 10, 10, 11, 11, 10, 11, 10, 12, 12, 10, 12, 10, 13, 13, 10, 13, 9, 10, 7, 9, 7, 14, 14, 14, 14, 15, 15])) := by kernel_rfl
set_option maxRecDepth 100000 in
theorem sd_0010111011011 (n : Int) : evR (ctxOf Try.prog noFacts (fun _ => false) libSD) Try.f4 [(.w (.one (.int .i64 n)))] [false, false, true, false, true, true, true, false, true, true, false, true, true] = some (AV.w (AW.one (AC.yes false)), (pickL [(i64B n, true), (i64B 3600000, true), (!true, false), (dtE (IntKind.i64.wrap (belowV n 3600000 - 700000)) != 0, false), (dtE (IntKind.i64.wrap (IntKind.i64.wrap (belowV n 3600000 - 700000) + 1)) != 0, false), (dtY (IntKind.i64.wrap (IntKind.i64.wrap (belowV n 3600000 - 700000) + 1)) == dtY (IntKind.i64.wrap (belowV n 3600000 - 700000)), true), (dtM (IntKind.i64.wrap (IntKind.i64.wrap (belowV n 3600000 - 700000) + 1)) == dtM (IntKind.i64.wrap (belowV n 3600000 - 700000)), false), (false, false), (dtD (IntKind.i64.wrap (IntKind.i64.wrap (belowV n 3600000 - 700000) + 1)) == 1, true), (decide (dtD (IntKind.i64.wrap (belowV n 3600000 - 700000)) ≥ 28), true), (dtM (IntKind.i64.wrap (IntKind.i64.wrap (belowV n 3600000 - 700000) + 1)) == IntKind.i64.wrap (dtM (IntKind.i64.wrap (belowV n 3600000 - 700000)) + 1), false), (dtY (IntKind.i64.wrap (IntKind.i64.wrap (belowV n 3600000 - 700000) + 1)) == IntKind.i64.wrap (dtY (IntKind.i64.wrap (belowV n 3600000 - 700000)) + 1), true), (dtM (IntKind.i64.wrap (IntKind.i64.wrap (belowV n 3600000 - 700000) + 1)) == 1, true), (dtM (IntKind.i64.wrap (belowV n 3600000 - 700000)) == 12, false), (dnE (dtY (IntKind.i64.wrap (belowV n 3600000 - 700000))) (dtM (IntKind.i64.wrap (belowV n 3600000 - 700000))) (dtD (IntKind.i64.wrap (belowV n 3600000 - 700000))) == 0, true), (dnV (dtY (IntKind.i64.wrap (belowV n 3600000 - 700000))) (dtM (IntKind.i64.wrap (belowV n 3600000 - 700000))) (dtD (IntKind.i64.wrap (belowV n 3600000 - 700000))) == IntKind.i64.wrap (belowV n 3600000 - 700000), true)] [0, 1, 2, 3, 3, 3, 4, 5, 5, 5, 5, 6, 6, 6, 6, 6, 7, 7, 7, 8, 8, 7, 8, 7, 9, 9, 9, 9, 5, 5, 5, 5, 9, 5, 9, 10, 10, 10, 10, 10, 11, 11, 10, 11, 10, 12, 12, 10, 12, 10, 13, 13, 10, 13, 9, 10, 7, 9, 7, 14, 14, 14, 14, 15, 15])) := by kernel_rfl
set_option maxRecDepth 100000 in
theorem sd_001011101011 (n : Int) : evR (ctxOf Try.prog noFacts (fun _ => false) libSD) Try.f4 [(.w (.one (.int .i64 n)))] [false, false, true, false, true, true, true, false, true, false, true, true] = some (AV.w (AW.one (AC.yes false)), (pickL [(i64B n, true), (i64B 3600000, true), (!true, false), (dtE (IntKind.i64.wrap (belowV n 3600000 - 700000)) != 0, false), (dtE (IntKind.i64.wrap (IntKind.i64.wrap (belowV n 3600000 - 700000) + 1)) != 0, false), (dtY (IntKind.i64.wrap (IntKind.i64.wrap (belowV n 3600000 - 700000) + 1)) == dtY (IntKind.i64.wrap (belowV n 3600000 - 700000)), true), (dtM (IntKind.i64.wrap (IntKind.i64.wrap (belowV n 3600000 - 700000) + 1)) == dtM (IntKind.i64.wrap (belowV n 3600000 - 700000)), false), (false, false), (dtD (IntKind.i64.wrap (IntKind.i64.wrap (belowV n 3600000 - 700000) + 1)) == 1, true), (decide (dtD (IntKind.i64.wrap (belowV n 3600000 - 700000)) ≥ 28), true), (dtM (IntKind.i64.wrap (IntKind.i64.wrap (belowV n 3600000 - 700000) + 1)) == IntKind.i64.wrap (dtM (IntKind.i64.wrap (belowV n 3600000 - 700000)) + 1), false), (dtY (IntKind.i64.wrap (IntKind.i64.wrap (belowV n 3600000 - 700000) + 1)) == IntKind.i64.wrap (dtY (IntKind.i64.wrap (belowV n 3600000 - 700000)) + 1), true), (dtM (IntKind.i64.wrap (IntKind.i64.wrap (belowV n 3600000 - 700000) + 1)) == 1, false), (dnE (dtY (IntKind.i64.wrap (belowV n 3600000 - 700000))) (dtM (IntKind.i64.wrap (belowV n 3600000 - 700000))) (dtD (IntKind.i64.wrap (belowV n 3600000 - 700000))) == 0, true), (dnV (dtY (IntKind.i64.wrap (belowV n 3600000 - 700000))) (dtM (IntKind.i64.wrap (belowV n 3600000 - 700000))) (dtD (IntKind.i64.wrap (belowV n 3600000 - 700000))) == IntKind.i64.wrap (belowV n 3600000 - 700000), true)] [0, 1, 2, 3, 3, 3, 4, 5, 5, 5, 5, 6, 6, 6, 6, 6, 7, 7, 7, 8, 8, 7, 8, 7, 9, 9, 9, 9, 5, 5, 5, 5, 9, 5, 9, 10, 10, 10, 10, 10, 11, 11, 10, 11, 10, 12, 12, 10, 12, 10, 7, 7, 10, 7, 9, 10, 7, 9, 7, 13, 13, 13, 13, 14, 14])) := by kernel_rfl
set_option maxRecDepth 100000 in
theorem sd_00101110011 (n : Int) : evR (ctxOf Try.prog noFacts (fun _ => false) libSD) Try.f4 [(.w (.one (.int .i64 n)))] [false, false, true, false, true, true, true, false, false, true, true] = some (AV.w (AW.one (AC.yes false)), (pickL [(i64B n, true), (i64B 3600000, true), (!true, false), (dtE (IntKind.i64.wrap (belowV n 3600000 - 700000)) != 0, false), (dtE (IntKind.i64.wrap (IntKind.i64.wrap (belowV n 3600000 - 700000) + 1)) != 0, false), (dtY (IntKind.i64.wrap (IntKind.i64.wrap (belowV n 3600000 - 700000) + 1)) == dtY (IntKind.i64.wrap (belowV n 3600000 - 700000)), true), (dtM (IntKind.i64.wrap (IntKind.i64.wrap (belowV n 3600000 - 700000) + 1)) == dtM (IntKind.i64.wrap (belowV n 3600000 - 700000)), false), (false, false), (dtD (IntKind.i64.wrap (IntKind.i64.wrap (belowV n 3600000 - 700000) + 1)) == 1, true), (decide (dtD (IntKind.i64.wrap (belowV n 3600000 - 700000)) ≥ 28), true), (dtM (IntKind.i64.wrap (IntKind.i64.wrap (belowV n 3600000 - 700000) + 1)) == IntKind.i64.wrap (dtM (IntKind.i64.wrap (belowV n 3600000 - 700000)) + 1), false), (dtY (IntKind.i64.wrap (IntKind.i64.wrap (belowV n 3600000 - 700000) + 1)) == IntKind.i64.wrap (dtY (IntKind.i64.wrap (belowV n 3600000 - 700000)) + 1), false), (dnE (dtY (IntKind.i64.wrap (belowV n 3600000 - 700000))) (dtM (IntKind.i64.wrap (belowV n 3600000 - 700000))) (dtD (IntKind.i64.wrap (belowV n 3600000 - 700000))) == 0, true), (dnV (dtY (IntKind.i64.wrap (belowV n 3600000 - 700000))) (dtM (IntKind.i64.wrap (belowV n 3600000 - 700000))) (dtD (IntKind.i64.wrap (belowV n 3600000 - 700000))) == IntKind.i64.wrap (belowV n 3600000 - 700000), true)] [0, 1, 2, 3, 3, 3, 4, 5, 5, 5, 5, 6, 6, 6, 6, 6, 7, 7, 7, 8, 8, 7, 8, 7, 9, 9, 9, 9, 5, 5, 5, 5, 9, 5, 9, 10, 10, 10, 10, 10, 11, 11, 10, 11, 10, 7, 7, 10, 7, 10, 7, 7, 10, 7, 9, 10, 7, 9, 7, 12, 12, 12, 12, 13, 13])) := by kernel_rfl
set_option maxRecDepth 100000 in
theorem sd_00101011 (n : Int) : evR (ctxOf Try.prog noFacts (fun _ => false) libSD) Try.f4 [(.w (.one (.int .i64 n)))] [false, false, true, false, true, false, true, true] = some (AV.w (AW.one (AC.yes false)), (pickL [(i64B n, true), (i64B 3600000, true), (!true, false), (dtE (IntKind.i64.wrap (belowV n 3600000 - 700000)) != 0, false), (dtE (IntKind.i64.wrap (IntKind.i64.wrap (belowV n 3600000 - 700000) + 1)) != 0, false), (dtY (IntKind.i64.wrap (IntKind.i64.wrap (belowV n 3600000 - 700000) + 1)) == dtY (IntKind.i64.wrap (belowV n 3600000 - 700000)), true), (dtM (IntKind.i64.wrap (IntKind.i64.wrap (belowV n 3600000 - 700000) + 1)) == dtM (IntKind.i64.wrap (belowV n 3600000 - 700000)), false), (false, false), (dtD (IntKind.i64.wrap (IntKind.i64.wrap (belowV n 3600000 - 700000) + 1)) == 1, true), (decide (dtD (IntKind.i64.wrap (belowV n 3600000 - 700000)) ≥ 28), false), (dnE (dtY (IntKind.i64.wrap (belowV n 3600000 - 700000))) (dtM (IntKind.i64.wrap (belowV n 3600000 - 700000))) (dtD (IntKind.i64.wrap (belowV n 3600000 - 700000))) == 0, true), (dnV (dtY (IntKind.i64.wrap (belowV n 3600000 - 700000))) (dtM (IntKind.i64.wrap (belowV n 3600000 - 700000))) (dtD (IntKind.i64.wrap (belowV n 3600000 - 700000))) == IntKind.i64.wrap (belowV n 3600000 - 700000), true)] [0, 1, 2, 3, 3, 3, 4, 5, 5, 5, 5, 6, 6, 6, 6, 6, 7, 7, 7, 8, 8, 7, 8, 7, 9, 9, 9, 9, 9, 9, 9, 7, 9, 7, 10, 10, 10, 10, 11, 11])) := by kernel_rfl
set_option maxRecDepth 100000 in
theorem sd_0010011 (n : Int) : evR (ctxOf Try.prog noFacts (fun _ => false) libSD) Try.f4 [(.w (.one (.int .i64 n)))] [false, false, true, false, false, true, true] = some (AV.w (AW.one (AC.yes false)), (pickL [(i64B n, true), (i64B 3600000, true), (!true, false), (dtE (IntKind.i64.wrap (belowV n 3600000 - 700000)) != 0, false), (dtE (IntKind.i64.wrap (IntKind.i64.wrap (belowV n 3600000 - 700000) + 1)) != 0, false), (dtY (IntKind.i64.wrap (IntKind.i64.wrap (belowV n 3600000 - 700000) + 1)) == dtY (IntKind.i64.wrap (belowV n 3600000 - 700000)), true), (dtM (IntKind.i64.wrap (IntKind.i64.wrap (belowV n 3600000 - 700000) + 1)) == dtM (IntKind.i64.wrap (belowV n 3600000 - 700000)), false), (false, false), (dtD (IntKind.i64.wrap (IntKind.i64.wrap (belowV n 3600000 - 700000) + 1)) == 1, false), (dnE (dtY (IntKind.i64.wrap (belowV n 3600000 - 700000))) (dtM (IntKind.i64.wrap (belowV n 3600000 - 700000))) (dtD (IntKind.i64.wrap (belowV n 3600000 - 700000))) == 0, true), (dnV (dtY (IntKind.i64.wrap (belowV n 3600000 - 700000))) (dtM (IntKind.i64.wrap (belowV n 3600000 - 700000))) (dtD (IntKind.i64.wrap (belowV n 3600000 - 700000))) == IntKind.i64.wrap (belowV n 3600000 - 700000), true)] [0, 1, 2, 3, 3, 3, 4, 5, 5, 5, 5, 6, 6, 6, 6, 6, 7, 7, 7, 8, 8, 7, 8, 7, 7, 7, 7, 7, 7, 7, 7, 7, 7, 7, 9, 9, 9, 9, 10, 10])) := by kernel_rfl
set_option maxRecDepth 100000 in
theorem sd_00011011111 (n : Int) : evR (ctxOf Try.prog noFacts (fun _ => false) libSD) Try.f4 [(.w (.one (.int .i64 n)))] [false, false, false, true, true, false, true, true, true, true, true] = some (AV.w (AW.one (AC.bool (dtD (IntKind.i64.wrap (belowV n 3600000 - 700000)) == 31))), (pickL [(i64B n, true), (i64B 3600000, true), (!true, false), (dtE (IntKind.i64.wrap (belowV n 3600000 - 700000)) != 0, false), (dtE (IntKind.i64.wrap (IntKind.i64.wrap (belowV n 3600000 - 700000) + 1)) != 0, false), (dtY (IntKind.i64.wrap (IntKind.i64.wrap (belowV n 3600000 - 700000) + 1)) == dtY (IntKind.i64.wrap (belowV n 3600000 - 700000)), false), (false, false), (dtD (IntKind.i64.wrap (IntKind.i64.wrap (belowV n 3600000 - 700000) + 1)) == 1, true), (decide (dtD (IntKind.i64.wrap (belowV n 3600000 - 700000)) ≥ 28), true), (dtY (IntKind.i64.wrap (IntKind.i64.wrap (belowV n 3600000 - 700000) + 1)) == IntKind.i64.wrap (dtY (IntKind.i64.wrap (belowV n 3600000 - 700000)) + 1), true), (dtM (IntKind.i64.wrap (IntKind.i64.wrap (belowV n 3600000 - 700000) + 1)) == 1, true), (dtM (IntKind.i64.wrap (belowV n 3600000 - 700000)) == 12, true), (dnE (dtY (IntKind.i64.wrap (belowV n 3600000 - 700000))) (dtM (IntKind.i64.wrap (belowV n 3600000 - 700000))) (dtD (IntKind.i64.wrap (belowV n 3600000 - 700000))) == 0, true), (dnV (dtY (IntKind.i64.wrap (belowV n 3600000 - 700000))) (dtM (IntKind.i64.wrap (belowV n 3600000 - 700000))) (dtD (IntKind.i64.wrap (belowV n 3600000 - 700000))) == IntKind.i64.wrap (belowV n 3600000 - 700000), true)] [0, 1, 2, 3, 3, 3, 4, 5, 5, 5, 5, 6, 6, 6, 6, 6, 6, 6, 6, 7, 7, 6, 7, 6, 8, 8, 8, 8, 5, 5, 5, 5, 8, 5, 8, 6, 6, 6, 6, 6, 9, 9, 6, 9, 6, 10, 10, 6, 10, 6, 11, 11, 6, 11, 8, 6, 6, 8, 6, 12, 12, 12, 12, 13, 13])) := by kernel_rfl
set_option maxRecDepth 100000 in
theorem sd_00011011011 (n : Int) : evR (ctxOf Try.prog noFacts (fun _ => false) libSD) Try.f4 [(.w (.one (.int .i64 n)))] [false, false, false, true, true, false, true, true, false, true, true] = some (AV.w (AW.one (AC.yes false)), (pickL [(i64B n, true), (i64B 3600000, true), (!true, false), (dtE (IntKind.i64.wrap (belowV n 3600000 - 700000)) != 0, false), (dtE (IntKind.i64.wrap (IntKind.i64.wrap (belowV n 3600000 - 700000) + 1)) != 0, false), (dtY (IntKind.i64.wrap (IntKind.i64.wrap (belowV n 3600000 - 700000) + 1)) == dtY (IntKind.i64.wrap (belowV n 3600000 - 700000)), false), (false, false), (dtD (IntKind.i64.wrap (IntKind.i64.wrap (belowV n 3600000 - 700000) + 1)) == 1, true), (decide (dtD (IntKind.i64.wrap (belowV n 3600000 - 700000)) ≥ 28), true), (dtY (IntKind.i64.wrap (IntKind.i64.wrap (belowV n 3600000 - 700000) + 1)) == IntKind.i64.wrap (dtY (IntKind.i64.wrap (belowV n 3600000 - 700000)) + 1), true), (dtM (IntKind.i64.wrap (IntKind.i64.wrap (belowV n 3600000 - 700000) + 1)) == 1, true), (dtM (IntKind.i64.wrap (belowV n 3600000 - 700000)) == 12, false), (dnE (dtY (IntKind.i64.wrap (belowV n 3600000 - 700000))) (dtM (IntKind.i64.wrap (belowV n 3600000 - 700000))) (dtD (IntKind.i64.wrap (belowV n 3600000 - 700000))) == 0, true), (dnV (dtY (IntKind.i64.wrap (belowV n 3600000 - 700000))) (dtM (IntKind.i64.wrap (belowV n 3600000 - 700000))) (dtD (IntKind.i64.wrap (belowV n 3600000 - 700000))) == IntKind.i64.wrap (belowV n 3600000 - 700000), true)] [0, 1, 2, 3, 3, 3, 4, 5, 5, 5, 5, 6, 6, 6, 6, 6, 6, 6, 6, 7, 7, 6, 7, 6, 8, 8, 8, 8, 5, 5, 5, 5, 8, 5, 8, 6, 6, 6, 6, 6, 9, 9, 6, 9, 6, 10, 10, 6, 10, 6, 11, 11, 6, 11, 8, 6, 6, 8, 6, 12, 12, 12, 12, 13, 13])) := by kernel_rfl
set_option maxRecDepth 100000 in
theorem sd_0001101011 (n : Int) : evR (ctxOf Try.prog noFacts (fun _ => false) libSD) Try.f4 [(.w (.one (.int .i64 n)))] [false, false, false, true, true, false, true, false, true, true] = some (AV.w (AW.one (AC.yes false)), (pickL [(i64B n, true), (i64B 3600000, true), (!true, false), (dtE (IntKind.i64.wrap (belowV n 3600000 - 700000)) != 0, false), (dtE (IntKind.i64.wrap (IntKind.i64.wrap (belowV n 3600000 - 700000) + 1)) != 0, false), (dtY (IntKind.i64.wrap (IntKind.i64.wrap (belowV n 3600000 - 700000) + 1)) == dtY (IntKind.i64.wrap (belowV n 3600000 - 700000)), false), (false, false), (dtD (IntKind.i64.wrap (IntKind.i64.wrap (belowV n 3600000 - 700000) + 1)) == 1, true), (decide (dtD (IntKind.i64.wrap (belowV n 3600000 - 700000)) ≥ 28), true), (dtY (IntKind.i64.wrap (IntKind.i64.wrap (belowV n 3600000 - 700000) + 1)) == IntKind.i64.wrap (dtY (IntKind.i64.wrap (belowV n 3600000 - 700000)) + 1), true), (dtM (IntKind.i64.wrap (IntKind.i64.wrap (belowV n 3600000 - 700000) + 1)) == 1, false), (dnE (dtY (IntKind.i64.wrap (belowV n 3600000 - 700000))) (dtM (IntKind.i64.wrap (belowV n 3600000 - 700000))) (dtD (IntKind.i64.wrap (belowV n 3600000 - 700000))) == 0, true), (dnV (dtY (IntKind.i64.wrap (belowV n 3600000 - 700000))) (dtM (IntKind.i64.wrap (belowV n 3600000 - 700000))) (dtD (IntKind.i64.wrap (belowV n 3600000 - 700000))) == IntKind.i64.wrap (belowV n 3600000 - 700000), true)] [0, 1, 2, 3, 3, 3, 4, 5, 5, 5, 5, 6, 6, 6, 6, 6, 6, 6, 6, 7, 7, 6, 7, 6, 8, 8, 8, 8, 5, 5, 5, 5, 8, 5, 8, 6, 6, 6, 6, 6, 9, 9, 6, 9, 6, 10, 10, 6, 10, 6, 6, 6, 6, 6, 8, 6, 6, 8, 6, 11, 11, 11, 11, 12, 12])) := by kernel_rfl
set_option maxRecDepth 100000 in
theorem sd_000110011 (n : Int) : evR (ctxOf Try.prog noFacts (fun _ => false) libSD) Try.f4 [(.w (.one (.int .i64 n)))] [false, false, false, true, true, false, false, true, true] = some (AV.w (AW.one (AC.yes false)), (pickL [(i64B n, true), (i64B 3600000, true), (!true, false), (dtE (IntKind.i64.wrap (belowV n 3600000 - 700000)) != 0, false), (dtE (IntKind.i64.wrap (IntKind.i64.wrap (belowV n 3600000 - 700000) + 1)) != 0, false), (dtY (IntKind.i64.wrap (IntKind.i64.wrap (belowV n 3600000 - 700000) + 1)) == dtY (IntKind.i64.wrap (belowV n 3600000 - 700000)), false), (false, false), (dtD (IntKind.i64.wrap (IntKind.i64.wrap (belowV n 3600000 - 700000) + 1)) == 1, true), (decide (dtD (IntKind.i64.wrap (belowV n 3600000 - 700000)) ≥ 28), true), (dtY (IntKind.i64.wrap (IntKind.i64.wrap (belowV n 3600000 - 700000) + 1)) == IntKind.i64.wrap (dtY (IntKind.i64.wrap (belowV n 3600000 - 700000)) + 1), false), (dnE (dtY (IntKind.i64.wrap (belowV n 3600000 - 700000))) (dtM (IntKind.i64.wrap (belowV n 3600000 - 700000))) (dtD (IntKind.i64.wrap (belowV n 3600000 - 700000))) == 0, true), (dnV (dtY (IntKind.i64.wrap (belowV n 3600000 - 700000))) (dtM (IntKind.i64.wrap (belowV n 3600000 - 700000))) (dtD (IntKind.i64.wrap (belowV n 3600000 - 700000))) == IntKind.i64.wrap (belowV n 3600000 - 700000), true)] [0, 1, 2, 3, 3, 3, 4, 5, 5, 5, 5, 6, 6, 6, 6, 6, 6, 6, 6, 7, 7, 6, 7, 6, 8, 8, 8, 8, 5, 5, 5, 5, 8, 5, 8, 6, 6, 6, 6, 6, 9, 9, 6, 9, 6, 6, 6, 6, 6, 6, 6, 6, 6, 6, 8, 6, 6, 8, 6, 10, 10, 10, 10, 11, 11])) := by kernel_rfl
set_option maxRecDepth 100000 in
theorem sd_0001011 (n : Int) : evR (ctxOf Try.prog noFacts (fun _ => false) libSD) Try.f4 [(.w (.one (.int .i64 n)))] [false, false, false, true, false, true, true] = some (AV.w (AW.one (AC.yes false)), (pickL [(i64B n, true), (i64B 3600000, true), (!true, false), (dtE (IntKind.i64.wrap (belowV n 3600000 - 700000)) != 0, false), (dtE (IntKind.i64.wrap (IntKind.i64.wrap (belowV n 3600000 - 700000) + 1)) != 0, false), (dtY (IntKind.i64.wrap (IntKind.i64.wrap (belowV n 3600000 - 700000) + 1)) == dtY (IntKind.i64.wrap (belowV n 3600000 - 700000)), false), (false, false), (dtD (IntKind.i64.wrap (IntKind.i64.wrap (belowV n 3600000 - 700000) + 1)) == 1, true), (decide (dtD (IntKind.i64.wrap (belowV n 3600000 - 700000)) ≥ 28), false), (dnE (dtY (IntKind.i64.wrap (belowV n 3600000 - 700000))) (dtM (IntKind.i64.wrap (belowV n 3600000 - 700000))) (dtD (IntKind.i64.wrap (belowV n 3600000 - 700000))) == 0, true), (dnV (dtY (IntKind.i64.wrap (belowV n 3600000 - 700000))) (dtM (IntKind.i64.wrap (belowV n 3600000 - 700000))) (dtD (IntKind.i64.wrap (belowV n 3600000 - 700000))) == IntKind.i64.wrap (belowV n 3600000 - 700000), true)] [0, 1, 2, 3, 3, 3, 4, 5, 5, 5, 5, 6, 6, 6, 6, 6, 6, 6, 6, 7, 7, 6, 7, 6, 8, 8, 8, 8, 8, 8, 8, 6, 8, 6, 9, 9, 9, 9, 10, 10])) := by kernel_rfl
set_option maxRecDepth 100000 in
theorem sd_000011 (n : Int) : evR (ctxOf Try.prog noFacts (fun _ => false) libSD) Try.f4 [(.w (.one (.int .i64 n)))] [false, false, false, false, true, true] = some (AV.w (AW.one (AC.yes false)), (pickL [(i64B n, true), (i64B 3600000, true), (!true, false), (dtE (IntKind.i64.wrap (belowV n 3600000 - 700000)) != 0, false), (dtE (IntKind.i64.wrap (IntKind.i64.wrap (belowV n 3600000 - 700000) + 1)) != 0, false), (dtY (IntKind.i64.wrap (IntKind.i64.wrap (belowV n 3600000 - 700000) + 1)) == dtY (IntKind.i64.wrap (belowV n 3600000 - 700000)), false), (false, false), (dtD (IntKind.i64.wrap (IntKind.i64.wrap (belowV n 3600000 - 700000) + 1)) == 1, false), (dnE (dtY (IntKind.i64.wrap (belowV n 3600000 - 700000))) (dtM (IntKind.i64.wrap (belowV n 3600000 - 700000))) (dtD (IntKind.i64.wrap (belowV n 3600000 - 700000))) == 0, true), (dnV (dtY (IntKind.i64.wrap (belowV n 3600000 - 700000))) (dtM (IntKind.i64.wrap (belowV n 3600000 - 700000))) (dtD (IntKind.i64.wrap (belowV n 3600000 - 700000))) == IntKind.i64.wrap (belowV n 3600000 - 700000), true)] [0, 1, 2, 3, 3, 3, 4, 5, 5, 5, 5, 6, 6, 6, 6, 6, 6, 6, 6, 7, 7, 6, 7, 6, 6, 6, 6, 6, 6, 6, 6, 6, 6, 6, 8, 8, 8, 8, 9, 9])) := by kernel_rfl
set_option maxRecDepth 100000 in
set_option maxHeartbeats 4000000 in
theorem scaleDays_law (n : Int) (n1 : -9223372036854775808 ≤ n) (n2 : n ≤ 9223372036854775807) (w : World) : Calls Try.prog 4 #[.int .i64 n] w fun e w' => e = .returned (.bool true) ∧ Below w.heap.size w w' := by
  have i_n : i64B n = true := i64B_iff.2 ⟨n1, n2⟩
  have hb := belowV_in n 3600000 (by omega)
  obtain ⟨k, hk⟩ : ∃ k, IntKind.i64.wrap (belowV n 3600000 - 700000) = k := ⟨_, rfl⟩
  have hk' : k = belowV n 3600000 - 700000 := by rw [← hk]; exact w64 (by omega) (by omega)
  have b1 : inD k = true := by unfold inD; rw [decide_eq_true (by omega), decide_eq_true (by omega)]; rfl
  have b2 : inD (k + 1) = true := by unfold inD; rw [decide_eq_true (by omega), decide_eq_true (by omega)]; rfl
  have hE : dtE k = 0 := if_pos b1
  have hE' : dtE (k + 1) = 0 := if_pos b2
  have hI := dt_is b1
  have hG := isD_ok hI
  have nx := dt_next b1 b2
  have ml := ml_in (dtY k) (dtM k)
  obtain ⟨a1, a2, a3, a4, a5, a6, _⟩ := hI
  have W0 : IntKind.i64.wrap (k + 1) = k + 1 := w64 (by omega) (by omega)
  have W1 : IntKind.i64.wrap (dtD k + 1) = dtD k + 1 := w64 (by omega) (by omega)
  have W2 : IntKind.i64.wrap (dtM k + 1) = dtM k + 1 := w64 (by omega) (by omega)
  have W3 : IntKind.i64.wrap (dtY k + 1) = dtY k + 1 := w64 (by omega) (by omega)
  clear hb hk' n1 n2
  have k0 : (dtE k != 0) = false := by rw [hE]; rfl
  have k1 : (dtE (k + 1) != 0) = false := by rw [hE']; rfl
  cases k2 : (dtY (k + 1) == dtY k) with
  | true =>
    cases k3 : (dtM (k + 1) == dtM k) with
    | true =>
      cases k4 : (dtD (k + 1) == (dtD k + 1)) with
      | true =>
        have k5 : (dnE (dtY k) (dtM k) (dtD k) == 0) = true := by rw [hG.2.2]; rfl
        have k6 : (dnV (dtY k) (dtM k) (dtD k) == k) = true := by rw [hG.2.1]; exact beq_self_eq_true _
        have L := sd_0011111 n
        rw [hk] at L
        rw [W0] at L
        try rw [W1] at L
        try rw [W2] at L
        try rw [W3] at L
        refine evR_calls (I := noFacts) (v := .bool true) (ctxOf_ok libSD_ok (eq_none _)) (by kernel_rfl) Try.func4 rfl lps_nil L rfl (all2_R (.cons rfl .nil)) rfl _ (Nat.zero_le _) (pickL_ok ?_ _)
        repeat' (first | exact cd_nil | refine cd_cons ?_ ?_)
        all_goals first | rfl | with_reducible assumption
      | false =>
        cases k7 : (dtD (k + 1) == 1) with
        | true =>
          cases k8 : (decide (dtD k ≥ 28)) with
          | true =>
            cases k9 : (dtM (k + 1) == (dtM k + 1)) with
            | true =>
              have k10 : (dnE (dtY k) (dtM k) (dtD k) == 0) = true := by rw [hG.2.2]; rfl
              have k11 : (dnV (dtY k) (dtM k) (dtD k) == k) = true := by rw [hG.2.1]; exact beq_self_eq_true _
              have L := sd_00110111111 n
              rw [hk] at L
              rw [W0] at L
              try rw [W1] at L
              try rw [W2] at L
              try rw [W3] at L
              refine evR_calls (I := noFacts) (v := .bool true) (ctxOf_ok libSD_ok (eq_none _)) (by kernel_rfl) Try.func4 rfl lps_nil L rfl (all2_R (.cons rfl .nil)) rfl _ (Nat.zero_le _) (pickL_ok ?_ _)
              repeat' (first | exact cd_nil | refine cd_cons ?_ ?_)
              all_goals first | rfl | with_reducible assumption
            | false =>
              cases k12 : (dtY (k + 1) == (dtY k + 1)) with
              | true =>
                cases k13 : (dtM (k + 1) == 1) with
                | true =>
                  cases k14 : (dtM k == 12) with
                  | true =>
                    have k15 : (dnE (dtY k) (dtM k) (dtD k) == 0) = true := by rw [hG.2.2]; rfl
                    have k16 : (dnV (dtY k) (dtM k) (dtD k) == k) = true := by rw [hG.2.1]; exact beq_self_eq_true _
                    have L := sd_00110111011111 n
                    rw [hk] at L
                    rw [W0] at L
                    try rw [W1] at L
                    try rw [W2] at L
                    try rw [W3] at L
                    have V : (dtD k == 31) = true := by
                      try clear L
                      simp only [beq_iff_eq, beq_eq_false_iff_ne, ne_eq, bne_iff_ne, bne_eq_false_iff_eq, decide_eq_true_eq, decide_eq_false_iff_not, Bool.not_eq_true', Bool.not_eq_false', ge_iff_le, gt_iff_lt] at *
                      omega
                    refine evR_calls (I := noFacts) (v := .bool true) (ctxOf_ok libSD_ok (eq_none _)) (by kernel_rfl) Try.func4 rfl lps_nil L rfl (all2_R (.cons rfl .nil)) (congrArg (fun b => some (Value.bool b)) V) _ (Nat.zero_le _) (pickL_ok ?_ _)
                    repeat' (first | exact cd_nil | refine cd_cons ?_ ?_)
                    all_goals first | rfl | with_reducible assumption
                  | false =>
                    have k17 : (dnE (dtY k) (dtM k) (dtD k) == 0) = true := by rw [hG.2.2]; rfl
                    have k18 : (dnV (dtY k) (dtM k) (dtD k) == k) = true := by rw [hG.2.1]; exact beq_self_eq_true _
                    exfalso
                    try clear L
                    simp only [beq_iff_eq, beq_eq_false_iff_ne, ne_eq, bne_iff_ne, bne_eq_false_iff_eq, decide_eq_true_eq, decide_eq_false_iff_not, Bool.not_eq_true', Bool.not_eq_false', ge_iff_le, gt_iff_lt] at *
                    omega
                | false =>
                  have k19 : (dnE (dtY k) (dtM k) (dtD k) == 0) = true := by rw [hG.2.2]; rfl
                  have k20 : (dnV (dtY k) (dtM k) (dtD k) == k) = true := by rw [hG.2.1]; exact beq_self_eq_true _
                  exfalso
                  try clear L
                  simp only [beq_iff_eq, beq_eq_false_iff_ne, ne_eq, bne_iff_ne, bne_eq_false_iff_eq, decide_eq_true_eq, decide_eq_false_iff_not, Bool.not_eq_true', Bool.not_eq_false', ge_iff_le, gt_iff_lt] at *
                  omega
              | false =>
                have k21 : (dnE (dtY k) (dtM k) (dtD k) == 0) = true := by rw [hG.2.2]; rfl
                have k22 : (dnV (dtY k) (dtM k) (dtD k) == k) = true := by rw [hG.2.1]; exact beq_self_eq_true _
                exfalso
                try clear L
                simp only [beq_iff_eq, beq_eq_false_iff_ne, ne_eq, bne_iff_ne, bne_eq_false_iff_eq, decide_eq_true_eq, decide_eq_false_iff_not, Bool.not_eq_true', Bool.not_eq_false', ge_iff_le, gt_iff_lt] at *
                omega
          | false =>
            have k23 : (dnE (dtY k) (dtM k) (dtD k) == 0) = true := by rw [hG.2.2]; rfl
            have k24 : (dnV (dtY k) (dtM k) (dtD k) == k) = true := by rw [hG.2.1]; exact beq_self_eq_true _
            exfalso
            try clear L
            simp only [beq_iff_eq, beq_eq_false_iff_ne, ne_eq, bne_iff_ne, bne_eq_false_iff_eq, decide_eq_true_eq, decide_eq_false_iff_not, Bool.not_eq_true', Bool.not_eq_false', ge_iff_le, gt_iff_lt] at *
            omega
        | false =>
          have k25 : (dnE (dtY k) (dtM k) (dtD k) == 0) = true := by rw [hG.2.2]; rfl
          have k26 : (dnV (dtY k) (dtM k) (dtD k) == k) = true := by rw [hG.2.1]; exact beq_self_eq_true _
          exfalso
          try clear L
          simp only [beq_iff_eq, beq_eq_false_iff_ne, ne_eq, bne_iff_ne, bne_eq_false_iff_eq, decide_eq_true_eq, decide_eq_false_iff_not, Bool.not_eq_true', Bool.not_eq_false', ge_iff_le, gt_iff_lt] at *
          omega
    | false =>
      cases k27 : (dtD (k + 1) == 1) with
      | true =>
        cases k28 : (decide (dtD k ≥ 28)) with
        | true =>
          cases k29 : (dtM (k + 1) == (dtM k + 1)) with
          | true =>
            have k30 : (dnE (dtY k) (dtM k) (dtD k) == 0) = true := by rw [hG.2.2]; rfl
            have k31 : (dnV (dtY k) (dtM k) (dtD k) == k) = true := by rw [hG.2.1]; exact beq_self_eq_true _
            have L := sd_0010111111 n
            rw [hk] at L
            rw [W0] at L
            try rw [W1] at L
            try rw [W2] at L
            try rw [W3] at L
            refine evR_calls (I := noFacts) (v := .bool true) (ctxOf_ok libSD_ok (eq_none _)) (by kernel_rfl) Try.func4 rfl lps_nil L rfl (all2_R (.cons rfl .nil)) rfl _ (Nat.zero_le _) (pickL_ok ?_ _)
            repeat' (first | exact cd_nil | refine cd_cons ?_ ?_)
            all_goals first | rfl | with_reducible assumption
          | false =>
            cases k32 : (dtY (k + 1) == (dtY k + 1)) with
            | true =>
              cases k33 : (dtM (k + 1) == 1) with
              | true =>
                cases k34 : (dtM k == 12) with
                | true =>
                  have k35 : (dnE (dtY k) (dtM k) (dtD k) == 0) = true := by rw [hG.2.2]; rfl
                  have k36 : (dnV (dtY k) (dtM k) (dtD k) == k) = true := by rw [hG.2.1]; exact beq_self_eq_true _
                  have L := sd_0010111011111 n
                  rw [hk] at L
                  rw [W0] at L
                  try rw [W1] at L
                  try rw [W2] at L
                  try rw [W3] at L
                  have V : (dtD k == 31) = true := by
                    try clear L
                    simp only [beq_iff_eq, beq_eq_false_iff_ne, ne_eq, bne_iff_ne, bne_eq_false_iff_eq, decide_eq_true_eq, decide_eq_false_iff_not, Bool.not_eq_true', Bool.not_eq_false', ge_iff_le, gt_iff_lt] at *
                    omega
                  refine evR_calls (I := noFacts) (v := .bool true) (ctxOf_ok libSD_ok (eq_none _)) (by kernel_rfl) Try.func4 rfl lps_nil L rfl (all2_R (.cons rfl .nil)) (congrArg (fun b => some (Value.bool b)) V) _ (Nat.zero_le _) (pickL_ok ?_ _)
                  repeat' (first | exact cd_nil | refine cd_cons ?_ ?_)
                  all_goals first | rfl | with_reducible assumption
                | false =>
                  have k37 : (dnE (dtY k) (dtM k) (dtD k) == 0) = true := by rw [hG.2.2]; rfl
                  have k38 : (dnV (dtY k) (dtM k) (dtD k) == k) = true := by rw [hG.2.1]; exact beq_self_eq_true _
                  exfalso
                  try clear L
                  simp only [beq_iff_eq, beq_eq_false_iff_ne, ne_eq, bne_iff_ne, bne_eq_false_iff_eq, decide_eq_true_eq, decide_eq_false_iff_not, Bool.not_eq_true', Bool.not_eq_false', ge_iff_le, gt_iff_lt] at *
                  omega
              | false =>
                have k39 : (dnE (dtY k) (dtM k) (dtD k) == 0) = true := by rw [hG.2.2]; rfl
                have k40 : (dnV (dtY k) (dtM k) (dtD k) == k) = true := by rw [hG.2.1]; exact beq_self_eq_true _
                exfalso
                try clear L
                simp only [beq_iff_eq, beq_eq_false_iff_ne, ne_eq, bne_iff_ne, bne_eq_false_iff_eq, decide_eq_true_eq, decide_eq_false_iff_not, Bool.not_eq_true', Bool.not_eq_false', ge_iff_le, gt_iff_lt] at *
                omega
            | false =>
              have k41 : (dnE (dtY k) (dtM k) (dtD k) == 0) = true := by rw [hG.2.2]; rfl
              have k42 : (dnV (dtY k) (dtM k) (dtD k) == k) = true := by rw [hG.2.1]; exact beq_self_eq_true _
              exfalso
              try clear L
              simp only [beq_iff_eq, beq_eq_false_iff_ne, ne_eq, bne_iff_ne, bne_eq_false_iff_eq, decide_eq_true_eq, decide_eq_false_iff_not, Bool.not_eq_true', Bool.not_eq_false', ge_iff_le, gt_iff_lt] at *
              omega
        | false =>
          have k43 : (dnE (dtY k) (dtM k) (dtD k) == 0) = true := by rw [hG.2.2]; rfl
          have k44 : (dnV (dtY k) (dtM k) (dtD k) == k) = true := by rw [hG.2.1]; exact beq_self_eq_true _
          exfalso
          try clear L
          simp only [beq_iff_eq, beq_eq_false_iff_ne, ne_eq, bne_iff_ne, bne_eq_false_iff_eq, decide_eq_true_eq, decide_eq_false_iff_not, Bool.not_eq_true', Bool.not_eq_false', ge_iff_le, gt_iff_lt] at *
          omega
      | false =>
        have k45 : (dnE (dtY k) (dtM k) (dtD k) == 0) = true := by rw [hG.2.2]; rfl
        have k46 : (dnV (dtY k) (dtM k) (dtD k) == k) = true := by rw [hG.2.1]; exact beq_self_eq_true _
        exfalso
        try clear L
        simp only [beq_iff_eq, beq_eq_false_iff_ne, ne_eq, bne_iff_ne, bne_eq_false_iff_eq, decide_eq_true_eq, decide_eq_false_iff_not, Bool.not_eq_true', Bool.not_eq_false', ge_iff_le, gt_iff_lt] at *
        omega
  | false =>
    cases k47 : (dtD (k + 1) == 1) with
    | true =>
      cases k48 : (decide (dtD k ≥ 28)) with
      | true =>
        cases k49 : (dtY (k + 1) == (dtY k + 1)) with
        | true =>
          cases k50 : (dtM (k + 1) == 1) with
          | true =>
            cases k51 : (dtM k == 12) with
            | true =>
              have k52 : (dnE (dtY k) (dtM k) (dtD k) == 0) = true := by rw [hG.2.2]; rfl
              have k53 : (dnV (dtY k) (dtM k) (dtD k) == k) = true := by rw [hG.2.1]; exact beq_self_eq_true _
              have L := sd_00011011111 n
              rw [hk] at L
              rw [W0] at L
              try rw [W1] at L
              try rw [W2] at L
              try rw [W3] at L
              have V : (dtD k == 31) = true := by
                try clear L
                simp only [beq_iff_eq, beq_eq_false_iff_ne, ne_eq, bne_iff_ne, bne_eq_false_iff_eq, decide_eq_true_eq, decide_eq_false_iff_not, Bool.not_eq_true', Bool.not_eq_false', ge_iff_le, gt_iff_lt] at *
                omega
              refine evR_calls (I := noFacts) (v := .bool true) (ctxOf_ok libSD_ok (eq_none _)) (by kernel_rfl) Try.func4 rfl lps_nil L rfl (all2_R (.cons rfl .nil)) (congrArg (fun b => some (Value.bool b)) V) _ (Nat.zero_le _) (pickL_ok ?_ _)
              repeat' (first | exact cd_nil | refine cd_cons ?_ ?_)
              all_goals first | rfl | with_reducible assumption
            | false =>
              have k54 : (dnE (dtY k) (dtM k) (dtD k) == 0) = true := by rw [hG.2.2]; rfl
              have k55 : (dnV (dtY k) (dtM k) (dtD k) == k) = true := by rw [hG.2.1]; exact beq_self_eq_true _
              exfalso
              try clear L
              simp only [beq_iff_eq, beq_eq_false_iff_ne, ne_eq, bne_iff_ne, bne_eq_false_iff_eq, decide_eq_true_eq, decide_eq_false_iff_not, Bool.not_eq_true', Bool.not_eq_false', ge_iff_le, gt_iff_lt] at *
              omega
          | false =>
            have k56 : (dnE (dtY k) (dtM k) (dtD k) == 0) = true := by rw [hG.2.2]; rfl
            have k57 : (dnV (dtY k) (dtM k) (dtD k) == k) = true := by rw [hG.2.1]; exact beq_self_eq_true _
            exfalso
            try clear L
            simp only [beq_iff_eq, beq_eq_false_iff_ne, ne_eq, bne_iff_ne, bne_eq_false_iff_eq, decide_eq_true_eq, decide_eq_false_iff_not, Bool.not_eq_true', Bool.not_eq_false', ge_iff_le, gt_iff_lt] at *
            omega
        | false =>
          have k58 : (dnE (dtY k) (dtM k) (dtD k) == 0) = true := by rw [hG.2.2]; rfl
          have k59 : (dnV (dtY k) (dtM k) (dtD k) == k) = true := by rw [hG.2.1]; exact beq_self_eq_true _
          exfalso
          try clear L
          simp only [beq_iff_eq, beq_eq_false_iff_ne, ne_eq, bne_iff_ne, bne_eq_false_iff_eq, decide_eq_true_eq, decide_eq_false_iff_not, Bool.not_eq_true', Bool.not_eq_false', ge_iff_le, gt_iff_lt] at *
          omega
      | false =>
        have k60 : (dnE (dtY k) (dtM k) (dtD k) == 0) = true := by rw [hG.2.2]; rfl
        have k61 : (dnV (dtY k) (dtM k) (dtD k) == k) = true := by rw [hG.2.1]; exact beq_self_eq_true _
        exfalso
        try clear L
        simp only [beq_iff_eq, beq_eq_false_iff_ne, ne_eq, bne_iff_ne, bne_eq_false_iff_eq, decide_eq_true_eq, decide_eq_false_iff_not, Bool.not_eq_true', Bool.not_eq_false', ge_iff_le, gt_iff_lt] at *
        omega
    | false =>
      have k62 : (dnE (dtY k) (dtM k) (dtD k) == 0) = true := by rw [hG.2.2]; rfl
      have k63 : (dnV (dtY k) (dtM k) (dtD k) == k) = true := by rw [hG.2.1]; exact beq_self_eq_true _
      exfalso
      try clear L
      simp only [beq_iff_eq, beq_eq_false_iff_ne, ne_eq, bne_iff_ne, bne_eq_false_iff_eq, decide_eq_true_eq, decide_eq_false_iff_not, Bool.not_eq_true', Bool.not_eq_false', ge_iff_le, gt_iff_lt] at *
      omega
end
end Go.Proofs.Ytoaoifiklnbknab

