/-
  spyref1.Nearest: the nearest fraction, by going through all denominators.
  Conditions: those of each theorem.
-/
import Derived.Test.YtlhofholfgfphaaLFS
set_option linter.unusedVariables false
set_option linter.unusedSimpArgs false
namespace Go.Proofs.Ytlhofholfgfphaa
open Go.RowKit Go.Shelf Ev Zd Wd

abbrev libN : List (Nat × FnSp Nm) := [(18, nfn nI), (49, nfn nTimes), (95, nfn nFloor), (31, nfn nPlus), (32, nfn nLess), (42, nfn nAbs), (16, nfn nCmp), (71, nfn nLow)]
theorem libN_ok : LibOk Try.prog numI (lib1 libN) := (lib1_cons (nI_ok) Try.call18 (lib1_cons (nTimes_ok) Try.call49 (lib1_cons (nFloor_ok) Try.call95 (lib1_cons (nPlus_ok) Try.call31 (lib1_cons (nLess_ok) Try.call32 (lib1_cons (nAbs_ok) Try.call42 (lib1_cons (nCmp_ok) Try.call16 (lib1_cons (nLow_ok) Try.call71 (lib1_nil _ _)))))))))
set_option maxRecDepth 100000 in
theorem nr_11001010 (n : Int) (d : Int) (most : Int) (q : Int) (N : Int) (D : Int) (A : Int) (U : Int) (rest : List (Nat × AV Nm)) : evView (ctxOf Try.prog numI eqsF libN) 82 (false :: [false, true, false, true, true, true]) (loopAt (bodyOf Try.f85) [false, true, false, true, true, true]) ([(8, (.w (.one (.int .i64 q)))), (1, (.w (.one (.int .i64 most))))] ++ (ptrN 0 [2, 5, 6, 7] ++ rest)) [⟨87, [.int .i64 n, .int .i64 d]⟩, ⟨87, [.int .i64 N, .int .i64 D]⟩, ⟨27, [.bool (decide (A < 0)), .fv (.num A)]⟩, ⟨27, [.bool (decide (U < 0)), .fv (.num U)]⟩] 4 [8, 1, 2, 5, 6, 7] [true, true, false, false, true, false, true, false] = some ((Ex.normal, [AV.w (AW.one (AC.int IntKind.i64 (IntKind.i64.wrap (q + 1)))), AV.w (AW.one (AC.int IntKind.i64 most)), AV.w (AW.one (AC.ptr 0 0)), AV.w (AW.one (AC.ptr 1 0)), AV.w (AW.one (AC.ptr 2 0)), AV.w (AW.one (AC.ptr 3 0))], [{ ty := 87, cs := [AC.int IntKind.i64 n, AC.int IntKind.i64 d] }, { ty := 87, cs := [AC.int IntKind.i64 (lowA (n * q / d + 1) q), AC.int IntKind.i64 (lowB (n * q / d + 1) q)] }, { ty := 27, cs := [AC.bool (decide (absI ((n * q / d + 1) * d - n * q) < 0)), AC.fv (Nm.num (absI ((n * q / d + 1) * d - n * q)))] }, { ty := 27, cs := [AC.bool (decide (q < 0)), AC.fv (Nm.num q)] }]), (pickL [(decide (q ≤ most), true), (i64B n, true), (i64B q, true), (decide (n < 0) == decide (n < 0), true), (decide (q < 0) == decide (q < 0), true), (szB n, true), (szB q, true), (i64B d, true), (decide (n * q < 0) == decide (n * q < 0), true), (decide (d < 0) == decide (d < 0), true), (szB (n * q), true), (szB d, true), (decide (d = 0), false), (i64B 1, true), (decide (n * q / d < 0) == decide (n * q / d < 0), true), (decide (1 < 0) == decide (1 < 0), true), (szB (n * q / d), true), (szB 1, true), (decide (0 < ((2 : Nat) : Int)), true), (decide (0 ≤ 0), true), (decide (n * q / d * d < 0) == decide (n * q / d * d < 0), true), (szB (n * q / d * d), true), (decide (n * q / d * d - n * q < 0) == decide (n * q / d * d - n * q < 0), true), (q == 1, false), (false, false), (decide (absI (n * q / d * d - n * q) < 0) == decide (absI (n * q / d * d - n * q) < 0), true), (decide (U < 0) == decide (U < 0), true), (szB (absI (n * q / d * d - n * q)), true), (szB U, true), (decide (A < 0) == decide (A < 0), true), (szB A, true), (decide (absI (n * q / d * d - n * q) * U < 0) == decide (absI (n * q / d * d - n * q) * U < 0), true), (decide (A * q < 0) == decide (A * q < 0), true), (szB (absI (n * q / d * d - n * q) * U), true), (szB (A * q), true), (decide (Wd.cmpI (absI (n * q / d * d - n * q) * U) (A * q) < 0), false), (decide (IntKind.i64.wrap (0 + 1) < ((2 : Nat) : Int)), true), (decide (0 ≤ IntKind.i64.wrap (0 + 1)), true), (decide (n * q / d + 1 < 0) == decide (n * q / d + 1 < 0), true), (szB (n * q / d + 1), true), (decide ((n * q / d + 1) * d < 0) == decide ((n * q / d + 1) * d < 0), true), (szB ((n * q / d + 1) * d), true), (decide ((n * q / d + 1) * d - n * q < 0) == decide ((n * q / d + 1) * d - n * q < 0), true), (decide (absI ((n * q / d + 1) * d - n * q) < 0) == decide (absI ((n * q / d + 1) * d - n * q) < 0), true), (szB (absI ((n * q / d + 1) * d - n * q)), true), (decide (absI ((n * q / d + 1) * d - n * q) * U < 0) == decide (absI ((n * q / d + 1) * d - n * q) * U < 0), true), (szB (absI ((n * q / d + 1) * d - n * q) * U), true), (decide (Wd.cmpI (absI ((n * q / d + 1) * d - n * q) * U) (A * q) < 0), true), (decide (q = 0), false), (decide (IntKind.i64.wrap (IntKind.i64.wrap (0 + 1) + 1) < ((2 : Nat) : Int)), false)] [0, 1, 2, 3, 4, 5, 6, 7, 8, 9, 10, 11, 12, 13, 14, 15, 16, 17, 18, 19, 18, 7, 14, 9, 16, 11, 1, 2, 3, 4, 5, 6, 20, 8, 21, 10, 22, 23, 23, 23, 23, 23, 24, 24, 24, 25, 26, 27, 28, 24, 24, 24, 2, 24, 29, 4, 30, 6, 24, 31, 32, 33, 34, 24, 24, 35, 36, 37, 36, 7, 38, 9, 39, 11, 1, 2, 3, 4, 5, 6, 40, 8, 41, 10, 42, 23, 23, 23, 23, 23, 24, 24, 24, 43, 26, 44, 28, 24, 24, 24, 2, 24, 29, 4, 30, 6, 24, 45, 32, 46, 34, 24, 24, 47, 2, 2, 38, 4, 39, 6, 48, 49])) := by kernel_rfl
set_option maxRecDepth 100000 in
theorem nr_11011000 (n : Int) (d : Int) (most : Int) (q : Int) (N : Int) (D : Int) (A : Int) (U : Int) (rest : List (Nat × AV Nm)) : evView (ctxOf Try.prog numI eqsF libN) 82 (false :: [false, true, false, true, true, true]) (loopAt (bodyOf Try.f85) [false, true, false, true, true, true]) ([(8, (.w (.one (.int .i64 q)))), (1, (.w (.one (.int .i64 most))))] ++ (ptrN 0 [2, 5, 6, 7] ++ rest)) [⟨87, [.int .i64 n, .int .i64 d]⟩, ⟨87, [.int .i64 N, .int .i64 D]⟩, ⟨27, [.bool (decide (A < 0)), .fv (.num A)]⟩, ⟨27, [.bool (decide (U < 0)), .fv (.num U)]⟩] 4 [8, 1, 2, 5, 6, 7] [true, true, false, true, true, false, false, false] = some ((Ex.normal, [AV.w (AW.one (AC.int IntKind.i64 (IntKind.i64.wrap (q + 1)))), AV.w (AW.one (AC.int IntKind.i64 most)), AV.w (AW.one (AC.ptr 0 0)), AV.w (AW.one (AC.ptr 1 0)), AV.w (AW.one (AC.ptr 2 0)), AV.w (AW.one (AC.ptr 3 0))], [{ ty := 87, cs := [AC.int IntKind.i64 n, AC.int IntKind.i64 d] }, { ty := 87, cs := [AC.int IntKind.i64 (lowA (n * q / d) q), AC.int IntKind.i64 (lowB (n * q / d) q)] }, { ty := 27, cs := [AC.bool (decide (absI (n * q / d * d - n * q) < 0)), AC.fv (Nm.num (absI (n * q / d * d - n * q)))] }, { ty := 27, cs := [AC.bool (decide (q < 0)), AC.fv (Nm.num q)] }]), (pickL [(decide (q ≤ most), true), (i64B n, true), (i64B q, true), (decide (n < 0) == decide (n < 0), true), (decide (q < 0) == decide (q < 0), true), (szB n, true), (szB q, true), (i64B d, true), (decide (n * q < 0) == decide (n * q < 0), true), (decide (d < 0) == decide (d < 0), true), (szB (n * q), true), (szB d, true), (decide (d = 0), false), (i64B 1, true), (decide (n * q / d < 0) == decide (n * q / d < 0), true), (decide (1 < 0) == decide (1 < 0), true), (szB (n * q / d), true), (szB 1, true), (decide (0 < ((2 : Nat) : Int)), true), (decide (0 ≤ 0), true), (decide (n * q / d * d < 0) == decide (n * q / d * d < 0), true), (szB (n * q / d * d), true), (decide (n * q / d * d - n * q < 0) == decide (n * q / d * d - n * q < 0), true), (q == 1, false), (false, false), (decide (absI (n * q / d * d - n * q) < 0) == decide (absI (n * q / d * d - n * q) < 0), true), (decide (U < 0) == decide (U < 0), true), (szB (absI (n * q / d * d - n * q)), true), (szB U, true), (decide (A < 0) == decide (A < 0), true), (szB A, true), (decide (absI (n * q / d * d - n * q) * U < 0) == decide (absI (n * q / d * d - n * q) * U < 0), true), (decide (A * q < 0) == decide (A * q < 0), true), (szB (absI (n * q / d * d - n * q) * U), true), (szB (A * q), true), (decide (Wd.cmpI (absI (n * q / d * d - n * q) * U) (A * q) < 0), true), (decide (q = 0), false), (decide (IntKind.i64.wrap (0 + 1) < ((2 : Nat) : Int)), true), (decide (0 ≤ IntKind.i64.wrap (0 + 1)), true), (decide (n * q / d + 1 < 0) == decide (n * q / d + 1 < 0), true), (szB (n * q / d + 1), true), (decide ((n * q / d + 1) * d < 0) == decide ((n * q / d + 1) * d < 0), true), (szB ((n * q / d + 1) * d), true), (decide ((n * q / d + 1) * d - n * q < 0) == decide ((n * q / d + 1) * d - n * q < 0), true), (decide (absI ((n * q / d + 1) * d - n * q) < 0) == decide (absI ((n * q / d + 1) * d - n * q) < 0), true), (szB (absI ((n * q / d + 1) * d - n * q)), true), (decide (absI ((n * q / d + 1) * d - n * q) * q < 0) == decide (absI ((n * q / d + 1) * d - n * q) * q < 0), true), (decide (absI (n * q / d * d - n * q) * q < 0) == decide (absI (n * q / d * d - n * q) * q < 0), true), (szB (absI ((n * q / d + 1) * d - n * q) * q), true), (szB (absI (n * q / d * d - n * q) * q), true), (decide (Wd.cmpI (absI ((n * q / d + 1) * d - n * q) * q) (absI (n * q / d * d - n * q) * q) < 0), false), (decide (IntKind.i64.wrap (IntKind.i64.wrap (0 + 1) + 1) < ((2 : Nat) : Int)), false)] [0, 1, 2, 3, 4, 5, 6, 7, 8, 9, 10, 11, 12, 13, 14, 15, 16, 17, 18, 19, 18, 7, 14, 9, 16, 11, 1, 2, 3, 4, 5, 6, 20, 8, 21, 10, 22, 23, 23, 23, 23, 23, 24, 24, 24, 25, 26, 27, 28, 24, 24, 24, 2, 24, 29, 4, 30, 6, 24, 31, 32, 33, 34, 24, 24, 35, 2, 2, 14, 4, 16, 6, 36, 37, 38, 37, 7, 39, 9, 40, 11, 1, 2, 3, 4, 5, 6, 41, 8, 42, 10, 43, 23, 23, 23, 23, 23, 24, 24, 24, 44, 4, 45, 6, 24, 24, 24, 2, 24, 25, 4, 27, 6, 24, 46, 47, 48, 49, 24, 24, 50, 51])) := by kernel_rfl
set_option maxRecDepth 100000 in
theorem nr_11001000 (n : Int) (d : Int) (most : Int) (q : Int) (N : Int) (D : Int) (A : Int) (U : Int) (rest : List (Nat × AV Nm)) : evView (ctxOf Try.prog numI eqsF libN) 82 (false :: [false, true, false, true, true, true]) (loopAt (bodyOf Try.f85) [false, true, false, true, true, true]) ([(8, (.w (.one (.int .i64 q)))), (1, (.w (.one (.int .i64 most))))] ++ (ptrN 0 [2, 5, 6, 7] ++ rest)) [⟨87, [.int .i64 n, .int .i64 d]⟩, ⟨87, [.int .i64 N, .int .i64 D]⟩, ⟨27, [.bool (decide (A < 0)), .fv (.num A)]⟩, ⟨27, [.bool (decide (U < 0)), .fv (.num U)]⟩] 4 [8, 1, 2, 5, 6, 7] [true, true, false, false, true, false, false, false] = some ((Ex.normal, [AV.w (AW.one (AC.int IntKind.i64 (IntKind.i64.wrap (q + 1)))), AV.w (AW.one (AC.int IntKind.i64 most)), AV.w (AW.one (AC.ptr 0 0)), AV.w (AW.one (AC.ptr 1 0)), AV.w (AW.one (AC.ptr 2 0)), AV.w (AW.one (AC.ptr 3 0))], [{ ty := 87, cs := [AC.int IntKind.i64 n, AC.int IntKind.i64 d] }, { ty := 87, cs := [AC.int IntKind.i64 N, AC.int IntKind.i64 D] }, { ty := 27, cs := [AC.bool (decide (A < 0)), AC.fv (Nm.num A)] }, { ty := 27, cs := [AC.bool (decide (U < 0)), AC.fv (Nm.num U)] }]), (pickL [(decide (q ≤ most), true), (i64B n, true), (i64B q, true), (decide (n < 0) == decide (n < 0), true), (decide (q < 0) == decide (q < 0), true), (szB n, true), (szB q, true), (i64B d, true), (decide (n * q < 0) == decide (n * q < 0), true), (decide (d < 0) == decide (d < 0), true), (szB (n * q), true), (szB d, true), (decide (d = 0), false), (i64B 1, true), (decide (n * q / d < 0) == decide (n * q / d < 0), true), (decide (1 < 0) == decide (1 < 0), true), (szB (n * q / d), true), (szB 1, true), (decide (0 < ((2 : Nat) : Int)), true), (decide (0 ≤ 0), true), (decide (n * q / d * d < 0) == decide (n * q / d * d < 0), true), (szB (n * q / d * d), true), (decide (n * q / d * d - n * q < 0) == decide (n * q / d * d - n * q < 0), true), (q == 1, false), (false, false), (decide (absI (n * q / d * d - n * q) < 0) == decide (absI (n * q / d * d - n * q) < 0), true), (decide (U < 0) == decide (U < 0), true), (szB (absI (n * q / d * d - n * q)), true), (szB U, true), (decide (A < 0) == decide (A < 0), true), (szB A, true), (decide (absI (n * q / d * d - n * q) * U < 0) == decide (absI (n * q / d * d - n * q) * U < 0), true), (decide (A * q < 0) == decide (A * q < 0), true), (szB (absI (n * q / d * d - n * q) * U), true), (szB (A * q), true), (decide (Wd.cmpI (absI (n * q / d * d - n * q) * U) (A * q) < 0), false), (decide (IntKind.i64.wrap (0 + 1) < ((2 : Nat) : Int)), true), (decide (0 ≤ IntKind.i64.wrap (0 + 1)), true), (decide (n * q / d + 1 < 0) == decide (n * q / d + 1 < 0), true), (szB (n * q / d + 1), true), (decide ((n * q / d + 1) * d < 0) == decide ((n * q / d + 1) * d < 0), true), (szB ((n * q / d + 1) * d), true), (decide ((n * q / d + 1) * d - n * q < 0) == decide ((n * q / d + 1) * d - n * q < 0), true), (decide (absI ((n * q / d + 1) * d - n * q) < 0) == decide (absI ((n * q / d + 1) * d - n * q) < 0), true), (szB (absI ((n * q / d + 1) * d - n * q)), true), (decide (absI ((n * q / d + 1) * d - n * q) * U < 0) == decide (absI ((n * q / d + 1) * d - n * q) * U < 0), true), (szB (absI ((n * q / d + 1) * d - n * q) * U), true), (decide (Wd.cmpI (absI ((n * q / d + 1) * d - n * q) * U) (A * q) < 0), false), (decide (IntKind.i64.wrap (IntKind.i64.wrap (0 + 1) + 1) < ((2 : Nat) : Int)), false)] [0, 1, 2, 3, 4, 5, 6, 7, 8, 9, 10, 11, 12, 13, 14, 15, 16, 17, 18, 19, 18, 7, 14, 9, 16, 11, 1, 2, 3, 4, 5, 6, 20, 8, 21, 10, 22, 23, 23, 23, 23, 23, 24, 24, 24, 25, 26, 27, 28, 24, 24, 24, 2, 24, 29, 4, 30, 6, 24, 31, 32, 33, 34, 24, 24, 35, 36, 37, 36, 7, 38, 9, 39, 11, 1, 2, 3, 4, 5, 6, 40, 8, 41, 10, 42, 23, 23, 23, 23, 23, 24, 24, 24, 43, 26, 44, 28, 24, 24, 24, 2, 24, 29, 4, 30, 6, 24, 45, 32, 46, 34, 24, 24, 47, 48])) := by kernel_rfl
set_option maxRecDepth 100000 in
theorem nr_0 (n : Int) (d : Int) (most : Int) (q : Int) (N : Int) (D : Int) (A : Int) (U : Int) (rest : List (Nat × AV Nm)) : evView (ctxOf Try.prog numI eqsF libN) 82 (false :: [false, true, false, true, true, true]) (loopAt (bodyOf Try.f85) [false, true, false, true, true, true]) ([(8, (.w (.one (.int .i64 q)))), (1, (.w (.one (.int .i64 most))))] ++ (ptrN 0 [2, 5, 6, 7] ++ rest)) [⟨87, [.int .i64 n, .int .i64 d]⟩, ⟨87, [.int .i64 N, .int .i64 D]⟩, ⟨27, [.bool (decide (A < 0)), .fv (.num A)]⟩, ⟨27, [.bool (decide (U < 0)), .fv (.num U)]⟩] 4 [8, 1, 2, 5, 6, 7] [false] = some ((Ex.exit 0, [AV.w (AW.one (AC.int IntKind.i64 q)), AV.w (AW.one (AC.int IntKind.i64 most)), AV.w (AW.one (AC.ptr 0 0)), AV.w (AW.one (AC.ptr 1 0)), AV.w (AW.one (AC.ptr 2 0)), AV.w (AW.one (AC.ptr 3 0))], [{ ty := 87, cs := [AC.int IntKind.i64 n, AC.int IntKind.i64 d] }, { ty := 87, cs := [AC.int IntKind.i64 N, AC.int IntKind.i64 D] }, { ty := 27, cs := [AC.bool (decide (A < 0)), AC.fv (Nm.num A)] }, { ty := 27, cs := [AC.bool (decide (U < 0)), AC.fv (Nm.num U)] }]), (pickL [(decide (q ≤ most), false)] [0])) := by kernel_rfl
set_option maxRecDepth 100000 in
theorem nr_11011010 (n : Int) (d : Int) (most : Int) (q : Int) (N : Int) (D : Int) (A : Int) (U : Int) (rest : List (Nat × AV Nm)) : evView (ctxOf Try.prog numI eqsF libN) 82 (false :: [false, true, false, true, true, true]) (loopAt (bodyOf Try.f85) [false, true, false, true, true, true]) ([(8, (.w (.one (.int .i64 q)))), (1, (.w (.one (.int .i64 most))))] ++ (ptrN 0 [2, 5, 6, 7] ++ rest)) [⟨87, [.int .i64 n, .int .i64 d]⟩, ⟨87, [.int .i64 N, .int .i64 D]⟩, ⟨27, [.bool (decide (A < 0)), .fv (.num A)]⟩, ⟨27, [.bool (decide (U < 0)), .fv (.num U)]⟩] 4 [8, 1, 2, 5, 6, 7] [true, true, false, true, true, false, true, false] = some ((Ex.normal, [AV.w (AW.one (AC.int IntKind.i64 (IntKind.i64.wrap (q + 1)))), AV.w (AW.one (AC.int IntKind.i64 most)), AV.w (AW.one (AC.ptr 0 0)), AV.w (AW.one (AC.ptr 1 0)), AV.w (AW.one (AC.ptr 2 0)), AV.w (AW.one (AC.ptr 3 0))], [{ ty := 87, cs := [AC.int IntKind.i64 n, AC.int IntKind.i64 d] }, { ty := 87, cs := [AC.int IntKind.i64 (lowA (n * q / d + 1) q), AC.int IntKind.i64 (lowB (n * q / d + 1) q)] }, { ty := 27, cs := [AC.bool (decide (absI ((n * q / d + 1) * d - n * q) < 0)), AC.fv (Nm.num (absI ((n * q / d + 1) * d - n * q)))] }, { ty := 27, cs := [AC.bool (decide (q < 0)), AC.fv (Nm.num q)] }]), (pickL [(decide (q ≤ most), true), (i64B n, true), (i64B q, true), (decide (n < 0) == decide (n < 0), true), (decide (q < 0) == decide (q < 0), true), (szB n, true), (szB q, true), (i64B d, true), (decide (n * q < 0) == decide (n * q < 0), true), (decide (d < 0) == decide (d < 0), true), (szB (n * q), true), (szB d, true), (decide (d = 0), false), (i64B 1, true), (decide (n * q / d < 0) == decide (n * q / d < 0), true), (decide (1 < 0) == decide (1 < 0), true), (szB (n * q / d), true), (szB 1, true), (decide (0 < ((2 : Nat) : Int)), true), (decide (0 ≤ 0), true), (decide (n * q / d * d < 0) == decide (n * q / d * d < 0), true), (szB (n * q / d * d), true), (decide (n * q / d * d - n * q < 0) == decide (n * q / d * d - n * q < 0), true), (q == 1, false), (false, false), (decide (absI (n * q / d * d - n * q) < 0) == decide (absI (n * q / d * d - n * q) < 0), true), (decide (U < 0) == decide (U < 0), true), (szB (absI (n * q / d * d - n * q)), true), (szB U, true), (decide (A < 0) == decide (A < 0), true), (szB A, true), (decide (absI (n * q / d * d - n * q) * U < 0) == decide (absI (n * q / d * d - n * q) * U < 0), true), (decide (A * q < 0) == decide (A * q < 0), true), (szB (absI (n * q / d * d - n * q) * U), true), (szB (A * q), true), (decide (Wd.cmpI (absI (n * q / d * d - n * q) * U) (A * q) < 0), true), (decide (q = 0), false), (decide (IntKind.i64.wrap (0 + 1) < ((2 : Nat) : Int)), true), (decide (0 ≤ IntKind.i64.wrap (0 + 1)), true), (decide (n * q / d + 1 < 0) == decide (n * q / d + 1 < 0), true), (szB (n * q / d + 1), true), (decide ((n * q / d + 1) * d < 0) == decide ((n * q / d + 1) * d < 0), true), (szB ((n * q / d + 1) * d), true), (decide ((n * q / d + 1) * d - n * q < 0) == decide ((n * q / d + 1) * d - n * q < 0), true), (decide (absI ((n * q / d + 1) * d - n * q) < 0) == decide (absI ((n * q / d + 1) * d - n * q) < 0), true), (szB (absI ((n * q / d + 1) * d - n * q)), true), (decide (absI ((n * q / d + 1) * d - n * q) * q < 0) == decide (absI ((n * q / d + 1) * d - n * q) * q < 0), true), (decide (absI (n * q / d * d - n * q) * q < 0) == decide (absI (n * q / d * d - n * q) * q < 0), true), (szB (absI ((n * q / d + 1) * d - n * q) * q), true), (szB (absI (n * q / d * d - n * q) * q), true), (decide (Wd.cmpI (absI ((n * q / d + 1) * d - n * q) * q) (absI (n * q / d * d - n * q) * q) < 0), true), (decide (IntKind.i64.wrap (IntKind.i64.wrap (0 + 1) + 1) < ((2 : Nat) : Int)), false)] [0, 1, 2, 3, 4, 5, 6, 7, 8, 9, 10, 11, 12, 13, 14, 15, 16, 17, 18, 19, 18, 7, 14, 9, 16, 11, 1, 2, 3, 4, 5, 6, 20, 8, 21, 10, 22, 23, 23, 23, 23, 23, 24, 24, 24, 25, 26, 27, 28, 24, 24, 24, 2, 24, 29, 4, 30, 6, 24, 31, 32, 33, 34, 24, 24, 35, 2, 2, 14, 4, 16, 6, 36, 37, 38, 37, 7, 39, 9, 40, 11, 1, 2, 3, 4, 5, 6, 41, 8, 42, 10, 43, 23, 23, 23, 23, 23, 24, 24, 24, 44, 4, 45, 6, 24, 24, 24, 2, 24, 25, 4, 27, 6, 24, 46, 47, 48, 49, 24, 24, 50, 2, 2, 39, 4, 40, 6, 36, 51])) := by kernel_rfl
set_option maxRecDepth 100000 in
theorem ns_111111000 (n : Int) (d : Int) (most : Int) (rest : List (Nat × AV Nm)) : evView (ctxOf Try.prog numI eqsF libN) 82 (false :: [false, true, false, true, true, true]) (loopAt (bodyOf Try.f85) [false, true, false, true, true, true]) ([(8, (.w (.one (.int .i64 1)))), (1, (.w (.one (.int .i64 most))))] ++ (ptrN 0 [2, 5, 6, 7] ++ rest)) [⟨87, [.int .i64 n, .int .i64 d]⟩, ⟨87, [.int .i64 0, .int .i64 0]⟩, ⟨27, [.yes false, .lit (.slice none 0 0)]⟩, ⟨27, [.yes false, .lit (.slice none 0 0)]⟩] 4 [8, 1, 2, 5, 6, 7] [true, true, true, true, true, true, false, false, false] = some ((Ex.normal, [AV.w (AW.one (AC.int IntKind.i64 (IntKind.i64.wrap (1 + 1)))), AV.w (AW.one (AC.int IntKind.i64 most)), AV.w (AW.one (AC.ptr 0 0)), AV.w (AW.one (AC.ptr 1 0)), AV.w (AW.one (AC.ptr 2 0)), AV.w (AW.one (AC.ptr 3 0))], [{ ty := 87, cs := [AC.int IntKind.i64 n, AC.int IntKind.i64 d] }, { ty := 87, cs := [AC.int IntKind.i64 (lowA (n * 1 / d) 1), AC.int IntKind.i64 (lowB (n * 1 / d) 1)] }, { ty := 27, cs := [AC.bool (decide (absI (n * 1 / d * d - n * 1) < 0)), AC.fv (Nm.num (absI (n * 1 / d * d - n * 1)))] }, { ty := 27, cs := [AC.bool (decide (1 < 0)), AC.fv (Nm.num 1)] }]), (pickL [(decide (1 ≤ most), true), (i64B n, true), (i64B 1, true), (decide (n < 0) == decide (n < 0), true), (decide (1 < 0) == decide (1 < 0), true), (szB n, true), (szB 1, true), (i64B d, true), (decide (n * 1 < 0) == decide (n * 1 < 0), true), (decide (d < 0) == decide (d < 0), true), (szB (n * 1), true), (szB d, true), (decide (d = 0), false), (decide (n * 1 / d < 0) == decide (n * 1 / d < 0), true), (szB (n * 1 / d), true), (decide (0 < ((2 : Nat) : Int)), true), (decide (0 ≤ 0), true), (decide (n * 1 / d * d < 0) == decide (n * 1 / d * d < 0), true), (szB (n * 1 / d * d), true), (decide (n * 1 / d * d - n * 1 < 0) == decide (n * 1 / d * d - n * 1 < 0), true), (1 == 1, true), (Wd.cmpI (n * 1 / d) (n * 1 / d) == 0, true), (true, true), (decide (1 = 0), false), (decide (IntKind.i64.wrap (0 + 1) < ((2 : Nat) : Int)), true), (decide (0 ≤ IntKind.i64.wrap (0 + 1)), true), (decide (n * 1 / d + 1 < 0) == decide (n * 1 / d + 1 < 0), true), (szB (n * 1 / d + 1), true), (decide ((n * 1 / d + 1) * d < 0) == decide ((n * 1 / d + 1) * d < 0), true), (szB ((n * 1 / d + 1) * d), true), (decide ((n * 1 / d + 1) * d - n * 1 < 0) == decide ((n * 1 / d + 1) * d - n * 1 < 0), true), (Wd.cmpI (n * 1 / d + 1) (n * 1 / d) == 0, false), (decide (absI ((n * 1 / d + 1) * d - n * 1) < 0) == decide (absI ((n * 1 / d + 1) * d - n * 1) < 0), true), (szB (absI ((n * 1 / d + 1) * d - n * 1)), true), (decide (absI (n * 1 / d * d - n * 1) < 0) == decide (absI (n * 1 / d * d - n * 1) < 0), true), (szB (absI (n * 1 / d * d - n * 1)), true), (decide (absI ((n * 1 / d + 1) * d - n * 1) * 1 < 0) == decide (absI ((n * 1 / d + 1) * d - n * 1) * 1 < 0), true), (decide (absI (n * 1 / d * d - n * 1) * 1 < 0) == decide (absI (n * 1 / d * d - n * 1) * 1 < 0), true), (szB (absI ((n * 1 / d + 1) * d - n * 1) * 1), true), (szB (absI (n * 1 / d * d - n * 1) * 1), true), (decide (Wd.cmpI (absI ((n * 1 / d + 1) * d - n * 1) * 1) (absI (n * 1 / d * d - n * 1) * 1) < 0), false), (decide (IntKind.i64.wrap (IntKind.i64.wrap (0 + 1) + 1) < ((2 : Nat) : Int)), false)] [0, 1, 2, 3, 4, 5, 6, 7, 8, 9, 10, 11, 12, 2, 13, 4, 14, 6, 15, 16, 15, 7, 13, 9, 14, 11, 1, 2, 3, 4, 5, 6, 17, 8, 18, 10, 19, 20, 20, 20, 13, 13, 14, 14, 20, 20, 21, 21, 21, 21, 21, 21, 21, 21, 21, 21, 22, 2, 2, 13, 4, 14, 6, 23, 24, 25, 24, 7, 26, 9, 27, 11, 1, 2, 3, 4, 5, 6, 28, 8, 29, 10, 30, 20, 20, 20, 26, 13, 27, 14, 20, 20, 31, 31, 31, 32, 4, 33, 6, 31, 31, 31, 2, 31, 34, 4, 35, 6, 31, 36, 37, 38, 39, 31, 31, 40, 41])) := by kernel_rfl
set_option maxRecDepth 100000 in
theorem ns_111111010 (n : Int) (d : Int) (most : Int) (rest : List (Nat × AV Nm)) : evView (ctxOf Try.prog numI eqsF libN) 82 (false :: [false, true, false, true, true, true]) (loopAt (bodyOf Try.f85) [false, true, false, true, true, true]) ([(8, (.w (.one (.int .i64 1)))), (1, (.w (.one (.int .i64 most))))] ++ (ptrN 0 [2, 5, 6, 7] ++ rest)) [⟨87, [.int .i64 n, .int .i64 d]⟩, ⟨87, [.int .i64 0, .int .i64 0]⟩, ⟨27, [.yes false, .lit (.slice none 0 0)]⟩, ⟨27, [.yes false, .lit (.slice none 0 0)]⟩] 4 [8, 1, 2, 5, 6, 7] [true, true, true, true, true, true, false, true, false] = some ((Ex.normal, [AV.w (AW.one (AC.int IntKind.i64 (IntKind.i64.wrap (1 + 1)))), AV.w (AW.one (AC.int IntKind.i64 most)), AV.w (AW.one (AC.ptr 0 0)), AV.w (AW.one (AC.ptr 1 0)), AV.w (AW.one (AC.ptr 2 0)), AV.w (AW.one (AC.ptr 3 0))], [{ ty := 87, cs := [AC.int IntKind.i64 n, AC.int IntKind.i64 d] }, { ty := 87, cs := [AC.int IntKind.i64 (lowA (n * 1 / d + 1) 1), AC.int IntKind.i64 (lowB (n * 1 / d + 1) 1)] }, { ty := 27, cs := [AC.bool (decide (absI ((n * 1 / d + 1) * d - n * 1) < 0)), AC.fv (Nm.num (absI ((n * 1 / d + 1) * d - n * 1)))] }, { ty := 27, cs := [AC.bool (decide (1 < 0)), AC.fv (Nm.num 1)] }]), (pickL [(decide (1 ≤ most), true), (i64B n, true), (i64B 1, true), (decide (n < 0) == decide (n < 0), true), (decide (1 < 0) == decide (1 < 0), true), (szB n, true), (szB 1, true), (i64B d, true), (decide (n * 1 < 0) == decide (n * 1 < 0), true), (decide (d < 0) == decide (d < 0), true), (szB (n * 1), true), (szB d, true), (decide (d = 0), false), (decide (n * 1 / d < 0) == decide (n * 1 / d < 0), true), (szB (n * 1 / d), true), (decide (0 < ((2 : Nat) : Int)), true), (decide (0 ≤ 0), true), (decide (n * 1 / d * d < 0) == decide (n * 1 / d * d < 0), true), (szB (n * 1 / d * d), true), (decide (n * 1 / d * d - n * 1 < 0) == decide (n * 1 / d * d - n * 1 < 0), true), (1 == 1, true), (Wd.cmpI (n * 1 / d) (n * 1 / d) == 0, true), (true, true), (decide (1 = 0), false), (decide (IntKind.i64.wrap (0 + 1) < ((2 : Nat) : Int)), true), (decide (0 ≤ IntKind.i64.wrap (0 + 1)), true), (decide (n * 1 / d + 1 < 0) == decide (n * 1 / d + 1 < 0), true), (szB (n * 1 / d + 1), true), (decide ((n * 1 / d + 1) * d < 0) == decide ((n * 1 / d + 1) * d < 0), true), (szB ((n * 1 / d + 1) * d), true), (decide ((n * 1 / d + 1) * d - n * 1 < 0) == decide ((n * 1 / d + 1) * d - n * 1 < 0), true), (Wd.cmpI (n * 1 / d + 1) (n * 1 / d) == 0, false), (decide (absI ((n * 1 / d + 1) * d - n * 1) < 0) == decide (absI ((n * 1 / d + 1) * d - n * 1) < 0), true), (szB (absI ((n * 1 / d + 1) * d - n * 1)), true), (decide (absI (n * 1 / d * d - n * 1) < 0) == decide (absI (n * 1 / d * d - n * 1) < 0), true), (szB (absI (n * 1 / d * d - n * 1)), true), (decide (absI ((n * 1 / d + 1) * d - n * 1) * 1 < 0) == decide (absI ((n * 1 / d + 1) * d - n * 1) * 1 < 0), true), (decide (absI (n * 1 / d * d - n * 1) * 1 < 0) == decide (absI (n * 1 / d * d - n * 1) * 1 < 0), true), (szB (absI ((n * 1 / d + 1) * d - n * 1) * 1), true), (szB (absI (n * 1 / d * d - n * 1) * 1), true), (decide (Wd.cmpI (absI ((n * 1 / d + 1) * d - n * 1) * 1) (absI (n * 1 / d * d - n * 1) * 1) < 0), true), (decide (IntKind.i64.wrap (IntKind.i64.wrap (0 + 1) + 1) < ((2 : Nat) : Int)), false)] [0, 1, 2, 3, 4, 5, 6, 7, 8, 9, 10, 11, 12, 2, 13, 4, 14, 6, 15, 16, 15, 7, 13, 9, 14, 11, 1, 2, 3, 4, 5, 6, 17, 8, 18, 10, 19, 20, 20, 20, 13, 13, 14, 14, 20, 20, 21, 21, 21, 21, 21, 21, 21, 21, 21, 21, 22, 2, 2, 13, 4, 14, 6, 23, 24, 25, 24, 7, 26, 9, 27, 11, 1, 2, 3, 4, 5, 6, 28, 8, 29, 10, 30, 20, 20, 20, 26, 13, 27, 14, 20, 20, 31, 31, 31, 32, 4, 33, 6, 31, 31, 31, 2, 31, 34, 4, 35, 6, 31, 36, 37, 38, 39, 31, 31, 40, 2, 2, 26, 4, 27, 6, 23, 41])) := by kernel_rfl
/-- The distance of m/q from n/d, times q and d. -/
def nDist (n d m q : Int) : Int := absI (m * d - n * q)
structure NS where
  N : Int
  D : Int
  A : Int
  U : Int
def updN (n d m q : Int) (s : NS) : NS := if nDist n d m q * s.U < s.A * q then ⟨lowA m q, lowB m q, nDist n d m q, q⟩ else s
def rowN (n d q : Int) (s : NS) : NS := updN n d (n * q / d + 1) q (updN n d (n * q / d) q s)
def firstN (n d : Int) : NS := updN n d (n * 1 / d + 1) 1 ⟨lowA (n * 1 / d) 1, lowB (n * 1 / d) 1, nDist n d (n * 1 / d) 1, 1⟩
/-- What Nearest has found among the denominators 1 to k + 1. -/
def nearN (n d : Int) : Nat → NS
  | 0 => firstN n d
  | k + 1 => rowN n d (k + 2) (nearN n d k)
theorem nDist_le {n d m q : Int} (h1 : -d ≤ m * d - n * q) (h2 : m * d - n * q ≤ d) : 0 ≤ nDist n d m q ∧ nDist n d m q ≤ d := ⟨absI_nn _, absI_le h1 h2⟩
theorem near_two {n d q : Int} (hd : 1 ≤ d) : (0 ≤ nDist n d (n * q / d) q ∧ nDist n d (n * q / d) q ≤ d) ∧ 0 ≤ nDist n d (n * q / d + 1) q ∧ nDist n d (n * q / d + 1) q ≤ d := by
  have h1 := Int.emod_add_mul_ediv (n * q) d
  have h2 := Int.emod_nonneg (n * q) (show d ≠ 0 by omega)
  have h3 := Int.emod_lt_of_pos (n * q) (show 0 < d by omega)
  generalize n * q / d = p at *
  have e1 : p * d = d * p := Int.mul_comm _ _
  have e2 : (p + 1) * d = d * p + d := by rw [Int.add_mul, Int.mul_comm]; omega
  exact ⟨nDist_le (by omega) (by omega), nDist_le (by omega) (by omega)⟩
/-- What the numbers of a state meet. -/
def okNS (d : Int) (s : NS) : Prop := 0 ≤ s.A ∧ s.A ≤ d ∧ 1 ≤ s.U ∧ s.U ≤ 4096
theorem updN_ok {n d m q : Int} {s : NS} (hs : okNS d s) (h : 0 ≤ nDist n d m q ∧ nDist n d m q ≤ d) (h1 : 1 ≤ q) (h2 : q ≤ 4096) : okNS d (updN n d m q s) := by
  unfold updN
  split
  · exact ⟨h.1, h.2, h1, h2⟩
  · exact hs
theorem nearN_ok {n d : Int} (hd : 1 ≤ d) : ∀ k : Nat, k < 4096 → okNS d (nearN n d k)
  | 0, _ => updN_ok ⟨(near_two hd).1.1, (near_two hd).1.2, by simp, by simp⟩ (near_two hd).2 (by omega) (by omega)
  | k + 1, h => by
    have ih := nearN_ok (n := n) hd k (by omega)
    exact updN_ok (updN_ok ih (near_two hd).1 (by omega) (by omega)) (near_two hd).2 (by omega) (by omega)
theorem cmp_lt {a b : Int} : decide (cmpI a b < 0) = decide (a < b) := by
  unfold cmpI
  by_cases h : a < b
  · rw [if_pos h, decide_eq_true h]; rfl
  · rw [if_neg h, decide_eq_false h]
    split <;> rfl
theorem wrap_q {q : Int} (h1 : 1 ≤ q) (h2 : q ≤ 4096) : IntKind.i64.wrap (q + 1) = q + 1 := by rw [IntKind.wrap_i64]; omega
structure NSt where
  n : Int
  d : Int
  most : Int
  q : Int
  s : Option NS
def nBoxes (n d : Int) : Option NS → List (Blk Nm)
  | none => [⟨87, [.int .i64 n, .int .i64 d]⟩, ⟨87, [.int .i64 0, .int .i64 0]⟩, ⟨27, [.yes false, .lit (.slice none 0 0)]⟩, ⟨27, [.yes false, .lit (.slice none 0 0)]⟩]
  | some s => [⟨87, [.int .i64 n, .int .i64 d]⟩, ⟨87, [.int .i64 s.N, .int .i64 s.D]⟩, ⟨27, [.bool (decide (s.A < 0)), .fv (.num s.A)]⟩, ⟨27, [.bool (decide (s.U < 0)), .fv (.num s.U)]⟩]
def nearS : LpSt NSt Nm where
  ps := [2, 5, 6, 7]
  tm := fun t => [(8, (.w (.one (.int .i64 t.q)))), (1, (.w (.one (.int .i64 t.most))))]
  hp := fun t => nBoxes t.n t.d t.s
/-- A state in which all goes well. -/
def NSt.ok (t : NSt) : Bool := frOk t.n t.d && decide (t.most ≤ 4096) && decide (1 ≤ t.q) && decide (t.q ≤ 4097) && (match t.s with | some s => decide (2 ≤ t.q) && decide (0 ≤ s.A) && decide (s.A ≤ t.d) && decide (1 ≤ s.U) && decide (s.U ≤ 4096) | none => decide (t.q = 1) && decide (1 ≤ t.most))
def nearStep (t : NSt) : Nxt NSt Nm := if t.ok = true then (match t.s with
    | some s => if t.q ≤ t.most then .go ⟨t.n, t.d, t.most, t.q + 1, some (rowN t.n t.d t.q s)⟩ else .out (.exit 0) [(8, (.w (.one (.int .i64 t.q)))), (1, (.w (.one (.int .i64 t.most))))] (nBoxes t.n t.d (some s))
    | none => .go ⟨t.n, t.d, t.most, 2, some (firstN t.n t.d)⟩) else .bad
set_option maxRecDepth 100000 in
set_option maxHeartbeats 4000000 in
theorem near_round (t : NSt) (hb : (nearStep t).isBad = false) (rest : List (Nat × AV Nm)) : ∃ fuel path r, evC (ctxOf Try.prog numI eqsF libN) fuel 82 (false :: [false, true, false, true, true, true]) (loopAt (bodyOf Try.f85) [false, true, false, true, true, true]) (nearS.tm t ++ (ptrN 0 nearS.ps ++ rest)) (numb 0 (nearS.hp t)) 4 path = some r ∧ (∀ p ∈ r.cd, p.1 = p.2) ∧ Gives nearS 4 r (nearStep t) := by
  obtain ⟨n, d, most, q, s⟩ := t
  unfold nearStep at hb ⊢
  cases hok : NSt.ok ⟨n, d, most, q, s⟩ with
  | false => rw [hok] at hb; cases hb
  | true =>
  clear hb
  simp only [if_true]
  simp only [NSt.ok, Bool.and_eq_true, decide_eq_true_eq] at hok
  obtain ⟨⟨⟨⟨hf, h1⟩, h2⟩, h3⟩, h4⟩ := hok
  have hF := frOk_iff.1 hf
  have d_n : Dl 4 n := Dl.lit (by omega) (by omega)
  have d_d : Dl 4 d := Dl.lit (by omega) (by omega)
  have d_q : Dl 4 q := Dl.lit (by omega) (by omega)
  have d_1 : Dl 4 1 := Dl.lit (by omega) (by omega)
  have i_n : i64B n = true := i64B_iff.2 (by omega)
  have i_d : i64B d = true := i64B_iff.2 (by omega)
  have i_q : i64B q = true := i64B_iff.2 (by omega)
  have z_d : decide (d = 0) = false := decide_eq_false (by omega)
  have z_q : decide (q = 0) = false := decide_eq_false (by omega)
  cases s with
  | none =>
    simp only [Bool.and_eq_true, decide_eq_true_eq] at h4
    obtain ⟨rfl, h5⟩ := h4
    have b1 : decide (1 ≤ most) = true := decide_eq_true h5
    have c0 : (cmpI (n * 1 / d) (n * 1 / d) == 0) = true := by simp [cmpI]
    have c0' : (cmpI (n * 1 / d + 1) (n * 1 / d) == 0) = false := by
      have : cmpI (n * 1 / d + 1) (n * 1 / d) = 1 := by unfold cmpI; rw [if_neg (by omega), if_pos (by omega)]
      rw [this]; rfl
    by_cases k2 : nDist n d (n * 1 / d + 1) 1 * 1 < nDist n d (n * 1 / d) 1 * 1
    · have c2 : decide (cmpI (absI ((n * 1 / d + 1) * d - n * 1) * 1) (absI (n * 1 / d * d - n * 1) * 1) < 0) = true := by rw [cmp_lt]; exact decide_eq_true k2
      have hrow : firstN n d = ⟨lowA (n * 1 / d + 1) 1, lowB (n * 1 / d + 1) 1, absI ((n * 1 / d + 1) * d - n * 1), 1⟩ := by unfold firstN updN; rw [if_pos k2]; rfl
      have L := ns_111111010 n d most rest
      rw [show IntKind.i64.wrap (1 + 1) = 2 from rfl] at L
      rw [hrow]
      refine round_go L (pickL_ok ?_ _) rfl rfl rfl rfl
      repeat' (first | exact cd_nil | refine cd_cons ?_ ?_)
      all_goals first | rfl | with_reducible assumption | exact eq_self_b _ | (apply Dl.sz; (repeat' (first | with_reducible assumption | apply Dl.mul | apply Dl.sub' | apply Dl.add' | apply Dl.div | apply Dl.abs)); omega)
    · have c2 : decide (cmpI (absI ((n * 1 / d + 1) * d - n * 1) * 1) (absI (n * 1 / d * d - n * 1) * 1) < 0) = false := by rw [cmp_lt]; exact decide_eq_false k2
      have hrow : firstN n d = ⟨lowA (n * 1 / d) 1, lowB (n * 1 / d) 1, absI (n * 1 / d * d - n * 1), 1⟩ := by unfold firstN updN; rw [if_neg k2]; rfl
      have L := ns_111111000 n d most rest
      rw [show IntKind.i64.wrap (1 + 1) = 2 from rfl] at L
      rw [hrow]
      refine round_go L (pickL_ok ?_ _) rfl rfl rfl rfl
      repeat' (first | exact cd_nil | refine cd_cons ?_ ?_)
      all_goals first | rfl | with_reducible assumption | exact eq_self_b _ | (apply Dl.sz; (repeat' (first | with_reducible assumption | apply Dl.mul | apply Dl.sub' | apply Dl.add' | apply Dl.div | apply Dl.abs)); omega)
  | some s =>
    obtain ⟨N, D, A, U⟩ := s
    simp only [Bool.and_eq_true, decide_eq_true_eq] at h4
    obtain ⟨⟨⟨⟨q2, a1⟩, a2⟩, u1⟩, u2⟩ := h4
    have d_A : Dl 4 A := Dl.lit (by omega) (by omega)
    have d_U : Dl 4 U := Dl.lit (by omega) (by omega)
    by_cases hq : q ≤ most
    · have b1 : decide (q ≤ most) = true := decide_eq_true hq
      simp only [if_pos hq]
      by_cases q1 : q = 1
      · subst q1
        omega
      · have e1 : (q == 1) = false := by simpa using q1
        have w1 := wrap_q h2 (show q ≤ 4096 by omega)
        by_cases k1 : nDist n d (n * q / d) q * U < A * q
        · have c1 : decide (cmpI (absI (n * q / d * d - n * q) * U) (A * q) < 0) = true := by rw [cmp_lt]; exact decide_eq_true k1
          by_cases k2 : nDist n d (n * q / d + 1) q * q < nDist n d (n * q / d) q * q
          · have c2 : decide (cmpI (absI ((n * q / d + 1) * d - n * q) * q) (absI (n * q / d * d - n * q) * q) < 0) = true := by rw [cmp_lt]; exact decide_eq_true k2
            have hrow : rowN n d q ⟨N, D, A, U⟩ = ⟨lowA (n * q / d + 1) q, lowB (n * q / d + 1) q, absI ((n * q / d + 1) * d - n * q), q⟩ := by
              unfold rowN
              rw [show updN n d (n * q / d) q ⟨N, D, A, U⟩ = ⟨lowA (n * q / d) q, lowB (n * q / d) q, nDist n d (n * q / d) q, q⟩ from if_pos k1]
              unfold updN; rw [if_pos k2]; rfl
            have L := nr_11011010 n d most q N D A U rest
            rw [w1] at L
            rw [hrow]
            refine round_go L (pickL_ok ?_ _) rfl rfl rfl rfl
            repeat' (first | exact cd_nil | refine cd_cons ?_ ?_)
            all_goals first | rfl | with_reducible assumption | exact eq_self_b _ | (apply Dl.sz; (repeat' (first | with_reducible assumption | apply Dl.mul | apply Dl.sub' | apply Dl.add' | apply Dl.div | apply Dl.abs)); omega)
          · have c2 : decide (cmpI (absI ((n * q / d + 1) * d - n * q) * q) (absI (n * q / d * d - n * q) * q) < 0) = false := by rw [cmp_lt]; exact decide_eq_false k2
            have hrow : rowN n d q ⟨N, D, A, U⟩ = ⟨lowA (n * q / d) q, lowB (n * q / d) q, absI (n * q / d * d - n * q), q⟩ := by
              unfold rowN
              rw [show updN n d (n * q / d) q ⟨N, D, A, U⟩ = ⟨lowA (n * q / d) q, lowB (n * q / d) q, nDist n d (n * q / d) q, q⟩ from if_pos k1]
              unfold updN; rw [if_neg k2]; rfl
            have L := nr_11011000 n d most q N D A U rest
            rw [w1] at L
            rw [hrow]
            refine round_go L (pickL_ok ?_ _) rfl rfl rfl rfl
            repeat' (first | exact cd_nil | refine cd_cons ?_ ?_)
            all_goals first | rfl | with_reducible assumption | exact eq_self_b _ | (apply Dl.sz; (repeat' (first | with_reducible assumption | apply Dl.mul | apply Dl.sub' | apply Dl.add' | apply Dl.div | apply Dl.abs)); omega)
        · have c1 : decide (cmpI (absI (n * q / d * d - n * q) * U) (A * q) < 0) = false := by rw [cmp_lt]; exact decide_eq_false k1
          by_cases k2 : nDist n d (n * q / d + 1) q * U < A * q
          · have c2 : decide (cmpI (absI ((n * q / d + 1) * d - n * q) * U) (A * q) < 0) = true := by rw [cmp_lt]; exact decide_eq_true k2
            have hrow : rowN n d q ⟨N, D, A, U⟩ = ⟨lowA (n * q / d + 1) q, lowB (n * q / d + 1) q, absI ((n * q / d + 1) * d - n * q), q⟩ := by
              unfold rowN
              rw [show updN n d (n * q / d) q ⟨N, D, A, U⟩ = ⟨N, D, A, U⟩ from if_neg k1]
              unfold updN; rw [if_pos k2]; rfl
            have L := nr_11001010 n d most q N D A U rest
            rw [w1] at L
            rw [hrow]
            refine round_go L (pickL_ok ?_ _) rfl rfl rfl rfl
            repeat' (first | exact cd_nil | refine cd_cons ?_ ?_)
            all_goals first | rfl | with_reducible assumption | exact eq_self_b _ | (apply Dl.sz; (repeat' (first | with_reducible assumption | apply Dl.mul | apply Dl.sub' | apply Dl.add' | apply Dl.div | apply Dl.abs)); omega)
          · have c2 : decide (cmpI (absI ((n * q / d + 1) * d - n * q) * U) (A * q) < 0) = false := by rw [cmp_lt]; exact decide_eq_false k2
            have hrow : rowN n d q ⟨N, D, A, U⟩ = ⟨N, D, A, U⟩ := by
              unfold rowN
              rw [show updN n d (n * q / d) q ⟨N, D, A, U⟩ = ⟨N, D, A, U⟩ from if_neg k1]
              unfold updN; rw [if_neg k2]
            have L := nr_11001000 n d most q N D A U rest
            rw [w1] at L
            rw [hrow]
            refine round_go L (pickL_ok ?_ _) rfl rfl rfl rfl
            repeat' (first | exact cd_nil | refine cd_cons ?_ ?_)
            all_goals first | rfl | with_reducible assumption | exact eq_self_b _ | (apply Dl.sz; (repeat' (first | with_reducible assumption | apply Dl.mul | apply Dl.sub' | apply Dl.add' | apply Dl.div | apply Dl.abs)); omega)
    · have b1 : decide (q ≤ most) = false := decide_eq_false hq
      simp only [if_neg hq]
      refine round_out (nr_0 n d most q N D A U rest) rfl (pickL_ok ?_ _) rfl rfl rfl
      repeat' (first | exact cd_nil | refine cd_cons ?_ ?_)
      all_goals first | rfl | with_reducible assumption | exact eq_self_b _ | (apply Dl.sz; (repeat' (first | with_reducible assumption | apply Dl.mul | apply Dl.sub' | apply Dl.add' | apply Dl.div | apply Dl.abs)); omega)
/-- Nearest's loop, for the evaluator. -/
def nearD : LpDef NSt Nm where
  ts := [8, 1]
  ps := [2, 5, 6, 7]
  W := [1, 2, 5, 6, 7, 8, 9, 11, 12, 13, 14, 15, 16, 17, 18, 19, 20, 21, 22, 23, 24, 25, 26, 27, 28, 29, 30, 31, 32, 33, 34, 35, 36, 37, 38, 39, 40, 41, 42, 43, 44, 45, 46, 47, 48, 49, 50, 51, 52, 53, 54, 55, 56, 57, 58, 59, 60, 61, 62, 63, 64, 65, 66, 67, 68, 69, 70, 71, 72, 73, 74, 75, 76, 77, 78, 79, 80]
  dec := fun vs ks => match vs, ks with
    | [.w (.one (.int .i64 q)), .w (.one (.int .i64 most))], [⟨t0, [.int .i64 n, .int .i64 d]⟩, ⟨t1, [.int .i64 N, .int .i64 D]⟩, ⟨t2, [.yes false, .lit (.slice none 0 0)]⟩, ⟨t3, [.yes false, .lit (.slice none 0 0)]⟩] =>
      bif Nat.beq t0 87 && Nat.beq t1 87 && Nat.beq t2 27 && Nat.beq t3 27 && (N == 0) && (D == 0) && (q == 1) then some ⟨n, d, most, 1, none⟩ else none
    | _, _ => none
  spec := fun t => some (.exit 0, [(8, (.w (.one (.int .i64 (t.most + 1))))), (1, (.w (.one (.int .i64 t.most))))], nBoxes t.n t.d (some (nearN t.n t.d (t.most - 1).toNat)), [(frOk t.n t.d && decide (1 ≤ t.most) && decide (t.most ≤ 4096) && decide (t.q = 1) && t.s.isNone, true)])
theorem near_runs {n d most : Int} (hf : frOk n d = true) (h1 : 1 ≤ most) (h2 : most ≤ 4096) : ∀ (j k : Nat), ((k : Int) + j + 1 = most) → runs nearStep (j + 1) ⟨n, d, most, k + 2, some (nearN n d k)⟩ = some (.exit 0, [(8, (.w (.one (.int .i64 (most + 1))))), (1, (.w (.one (.int .i64 most))))], nBoxes n d (some (nearN n d (most - 1).toNat))) := by
  have hF := frOk_iff.1 hf
  have ok : ∀ k : Nat, (k : Int) + 1 ≤ most → NSt.ok ⟨n, d, most, k + 2, some (nearN n d k)⟩ = true := fun k hk => by
    obtain ⟨g1, g2, g3, g4⟩ := nearN_ok (n := n) hF.2.2.1 k (by omega)
    simp only [NSt.ok, Bool.and_eq_true, decide_eq_true_eq]
    exact ⟨⟨⟨⟨hf, h2⟩, by omega⟩, by omega⟩, ⟨⟨⟨by omega, g1⟩, g2⟩, g3⟩, g4⟩
  intro j
  induction j with
  | zero =>
    intro k hk
    unfold runs nearStep
    rw [if_pos (ok k (by omega))]
    simp only
    rw [if_neg (by omega)]
    simp only
    rw [show (most - 1).toNat = k by omega, show (k : Int) + 2 = most + 1 by omega]
  | succ j ih =>
    intro k hk
    have e : runs nearStep (j + 1 + 1) ⟨n, d, most, k + 2, some (nearN n d k)⟩ = runs nearStep (j + 1) ⟨n, d, most, (k + 1 : Nat) + 2, some (nearN n d (k + 1))⟩ := by
      conv => lhs; unfold runs nearStep
      rw [if_pos (ok k (by omega))]
      simp only
      rw [if_pos (by omega)]
      simp only
      rw [show (k : Int) + 2 + 1 = ((k + 1 : Nat) : Int) + 2 by omega]
      rfl
    rw [e]
    exact ih (k + 1) (by omega)
theorem near_runs0 {n d most : Int} (hf : frOk n d = true) (h1 : 1 ≤ most) (h2 : most ≤ 4096) : ∃ k, runs nearStep k ⟨n, d, most, 1, none⟩ = some (.exit 0, [(8, (.w (.one (.int .i64 (most + 1))))), (1, (.w (.one (.int .i64 most))))], nBoxes n d (some (nearN n d (most - 1).toNat))) := by
  refine ⟨(most - 1).toNat + 1 + 1, ?_⟩
  have e : runs nearStep ((most - 1).toNat + 1 + 1) ⟨n, d, most, 1, none⟩ = runs nearStep ((most - 1).toNat + 1) ⟨n, d, most, (0 : Nat) + 2, some (nearN n d 0)⟩ := by
    conv => lhs; unfold runs nearStep
    rw [if_pos (by simp only [NSt.ok, Bool.and_eq_true, decide_eq_true_eq]; exact ⟨⟨⟨⟨hf, h2⟩, by omega⟩, by omega⟩, by trivial, h1⟩)]
    rfl
  rw [e]
  exact near_runs hf h1 h2 _ 0 (by omega)
theorem nearD_ok (x : Code) (hx : codeAt (bodyOf Try.f85) [false, true, false, true, true, true] = some (.loop x)) : LpOk Try.prog numI 82 x (nearD.sp nmSafe) := by
  obtain rfl := loopAt_eq hx
  refine lp_ok (c := ctxOf Try.prog numI eqsF libN) (ctxOf_ok libN_ok eqsF_ok) (by kernel_rfl) hx lps_nil (S := nearS) (step := nearStep) (fun _ h => h) (by kernel_rfl) (by kernel_rfl) ?_ rfl (fun t e he => ?_) (fun t hb rest => near_round t hb rest) ?_
  · intro vs ks s hv1 h hv2
    simp only [nearD] at h
    split at h
    · rename_i q most t0 n d t1 N D t2 t3
      cases hb : Nat.beq t0 87 && Nat.beq t1 87 && Nat.beq t2 27 && Nat.beq t3 27 && (N == 0) && (D == 0) && (q == 1) with
      | false => rw [hb] at h; cases h
      | true =>
        rw [hb] at h
        cases h
        simp only [Bool.and_eq_true, beq_iff_eq] at hb
        obtain ⟨⟨⟨⟨⟨⟨b0, b1⟩, b2⟩, b3⟩, rfl⟩, rfl⟩, rfl⟩ := hb
        obtain rfl := Nat.eq_of_beq_eq_true b0
        obtain rfl := Nat.eq_of_beq_eq_true b1
        obtain rfl := Nat.eq_of_beq_eq_true b2
        obtain rfl := Nat.eq_of_beq_eq_true b3
        exact ⟨rfl, fun e he => he⟩
    · cases h
  · rcases List.mem_cons.1 he with rfl | he
    · rfl
    · obtain rfl := List.mem_singleton.1 he
      rfl
  · intro s ex outs wb cd h hc
    obtain ⟨n, d, most, q, s⟩ := s
    simp only [nearD] at h
    cases h
    have := hc _ (List.mem_cons_self)
    simp only [Bool.and_eq_true, decide_eq_true_eq] at this
    obtain ⟨⟨⟨⟨h1, h2⟩, h3⟩, rfl⟩, h5⟩ := this
    cases s with
    | some s => cases h5
    | none => exact near_runs0 h1 h2 h3
end Go.Proofs.Ytlhofholfgfphaa

