/-
  The reference's real sine: atan (of 5 and of 239), Pi, the loop of RealSine.
  Conditions: those of each theorem.
-/
import Derived.Test.YtdhodjbomepfbaaT5A
import Derived.Test.YtdhodjbomepfbaaRM
set_option linter.unusedVariables false
set_option linter.unusedSimpArgs false
namespace Go.Proofs.Ytdhodjbomepfbaa
open Go.RowKit Go.Shelf Ev Zd Wd Tg

abbrev libP0 : List (Nat × FnSp Nm) := [(72, factSp gTwo), (18, nfn nI), (89, nfn nFloor), (31, nfn nPlus), (32, nfn nLess), (49, nfn nTimes), (41, nfn nSign), (33, nfn nMinus), (59, nfn nSplit), (84, nfn nSmall)]
theorem libP0_ok : LibOk Try.prog numI (lib1 libP0) := (lib1_cons (gTwo_ok) Try.call72 (lib1_cons (nI_ok) Try.call18 (lib1_cons (nFloor_ok) Try.call89 (lib1_cons (nPlus_ok) Try.call31 (lib1_cons (nLess_ok) Try.call32 (lib1_cons (nTimes_ok) Try.call49 (lib1_cons (nSign_ok) Try.call41 (lib1_cons (nMinus_ok) Try.call33 (lib1_cons (nSplit_ok) Try.call59 (lib1_cons (nSmall_ok) Try.call84 (lib1_nil _ _)))))))))))
set_option maxRecDepth 100000 in
theorem as_11 (n : Int) (t : Int) (s : Int) (k : Int) (rest : List (Nat × AV Nm)) : evView (ctxOf Try.prog numI (fun _ => false) libP0) 36 (false :: [false, true, false, true, true, true]) (loopAt (bodyOf Try.f139) [false, true, false, true, true, true]) ([(0, (.w (.one (.int .i64 n)))), (5, (.w (.one (.int .i64 k))))] ++ (ptrN 0 [3, 4] ++ rest)) [⟨27, [.bool (decide (t < 0)), .fv (.num t)]⟩, ⟨27, [.bool (decide (s < 0)), .fv (.num s)]⟩] 2 [0, 5, 3, 4] [true, true] = some ((Ex.normal, [AV.w (AW.one (AC.int IntKind.i64 n)), AV.w (AW.one (AC.int IntKind.i64 (IntKind.i64.wrap (k + 2)))), AV.w (AW.one (AC.ptr 0 0)), AV.w (AW.one (AC.ptr 1 0))], [{ ty := 27, cs := [AC.bool (decide (t / IntKind.i64.wrap (n * n) < 0)), AC.fv (Nm.num (t / IntKind.i64.wrap (n * n)))] }, { ty := 27, cs := [AC.bool (decide (s + t / k < 0)), AC.fv (Nm.num (s + t / k))] }]), (pickL [(decide (t < 0) == decide (t < 0), true), (decide (Wd.cmpI t 0 > 0), true), (i64B k, true), (decide (k < 0) == decide (k < 0), true), (szB t, true), (szB k, true), (decide (k = 0), false), (decide (4 = 0), false), (k.tmod 4 == 1, true), (decide (s < 0) == decide (s < 0), true), (decide (t / k < 0) == decide (t / k < 0), true), (szB s, true), (szB (t / k), true), (i64B (IntKind.i64.wrap (n * n)), true), (decide (IntKind.i64.wrap (n * n) < 0) == decide (IntKind.i64.wrap (n * n) < 0), true), (szB (IntKind.i64.wrap (n * n)), true), (decide (IntKind.i64.wrap (n * n) = 0), false)] [0, 1, 2, 0, 3, 4, 5, 6, 7, 8, 9, 10, 11, 12, 13, 0, 14, 4, 15, 16])) := by kernel_rfl
set_option maxRecDepth 100000 in
theorem as_10 (n : Int) (t : Int) (s : Int) (k : Int) (rest : List (Nat × AV Nm)) : evView (ctxOf Try.prog numI (fun _ => false) libP0) 36 (false :: [false, true, false, true, true, true]) (loopAt (bodyOf Try.f139) [false, true, false, true, true, true]) ([(0, (.w (.one (.int .i64 n)))), (5, (.w (.one (.int .i64 k))))] ++ (ptrN 0 [3, 4] ++ rest)) [⟨27, [.bool (decide (t < 0)), .fv (.num t)]⟩, ⟨27, [.bool (decide (s < 0)), .fv (.num s)]⟩] 2 [0, 5, 3, 4] [true, false] = some ((Ex.normal, [AV.w (AW.one (AC.int IntKind.i64 n)), AV.w (AW.one (AC.int IntKind.i64 (IntKind.i64.wrap (k + 2)))), AV.w (AW.one (AC.ptr 0 0)), AV.w (AW.one (AC.ptr 1 0))], [{ ty := 27, cs := [AC.bool (decide (t / IntKind.i64.wrap (n * n) < 0)), AC.fv (Nm.num (t / IntKind.i64.wrap (n * n)))] }, { ty := 27, cs := [AC.bool (decide (s - t / k < 0)), AC.fv (Nm.num (s - t / k))] }]), (pickL [(decide (t < 0) == decide (t < 0), true), (decide (Wd.cmpI t 0 > 0), true), (i64B k, true), (decide (k < 0) == decide (k < 0), true), (szB t, true), (szB k, true), (decide (k = 0), false), (decide (4 = 0), false), (k.tmod 4 == 1, false), (decide (s < 0) == decide (s < 0), true), (decide (t / k < 0) == decide (t / k < 0), true), (szB s, true), (szB (t / k), true), (i64B (IntKind.i64.wrap (n * n)), true), (decide (IntKind.i64.wrap (n * n) < 0) == decide (IntKind.i64.wrap (n * n) < 0), true), (szB (IntKind.i64.wrap (n * n)), true), (decide (IntKind.i64.wrap (n * n) = 0), false)] [0, 1, 2, 0, 3, 4, 5, 6, 7, 8, 9, 10, 11, 12, 13, 0, 14, 4, 15, 16])) := by kernel_rfl
set_option maxRecDepth 100000 in
theorem az_11 (n : Int) (t : Int) (k : Int) (rest : List (Nat × AV Nm)) : evView (ctxOf Try.prog numI (fun _ => false) libP0) 36 (false :: [false, true, false, true, true, true]) (loopAt (bodyOf Try.f139) [false, true, false, true, true, true]) ([(0, (.w (.one (.int .i64 n)))), (5, (.w (.one (.int .i64 k))))] ++ (ptrN 0 [3, 4] ++ rest)) [⟨27, [.bool (decide (t < 0)), .fv (.num t)]⟩, ⟨27, [.yes false, .lit (.slice none 0 0)]⟩] 2 [0, 5, 3, 4] [true, true] = some ((Ex.normal, [AV.w (AW.one (AC.int IntKind.i64 n)), AV.w (AW.one (AC.int IntKind.i64 (IntKind.i64.wrap (k + 2)))), AV.w (AW.one (AC.ptr 0 0)), AV.w (AW.one (AC.ptr 1 0))], [{ ty := 27, cs := [AC.bool (decide (t / IntKind.i64.wrap (n * n) < 0)), AC.fv (Nm.num (t / IntKind.i64.wrap (n * n)))] }, { ty := 27, cs := [AC.bool (decide (0 + t / k < 0)), AC.fv (Nm.num (0 + t / k))] }]), (pickL [(decide (t < 0) == decide (t < 0), true), (decide (Wd.cmpI t 0 > 0), true), (i64B k, true), (decide (k < 0) == decide (k < 0), true), (szB t, true), (szB k, true), (decide (k = 0), false), (decide (4 = 0), false), (k.tmod 4 == 1, true), (decide (t / k < 0) == decide (t / k < 0), true), (szB 0, true), (szB (t / k), true), (i64B (IntKind.i64.wrap (n * n)), true), (decide (IntKind.i64.wrap (n * n) < 0) == decide (IntKind.i64.wrap (n * n) < 0), true), (szB (IntKind.i64.wrap (n * n)), true), (decide (IntKind.i64.wrap (n * n) = 0), false)] [0, 1, 2, 0, 3, 4, 5, 6, 7, 8, 9, 10, 11, 12, 0, 13, 4, 14, 15])) := by kernel_rfl
set_option maxRecDepth 100000 in
theorem az_10 (n : Int) (t : Int) (k : Int) (rest : List (Nat × AV Nm)) : evView (ctxOf Try.prog numI (fun _ => false) libP0) 36 (false :: [false, true, false, true, true, true]) (loopAt (bodyOf Try.f139) [false, true, false, true, true, true]) ([(0, (.w (.one (.int .i64 n)))), (5, (.w (.one (.int .i64 k))))] ++ (ptrN 0 [3, 4] ++ rest)) [⟨27, [.bool (decide (t < 0)), .fv (.num t)]⟩, ⟨27, [.yes false, .lit (.slice none 0 0)]⟩] 2 [0, 5, 3, 4] [true, false] = some ((Ex.normal, [AV.w (AW.one (AC.int IntKind.i64 n)), AV.w (AW.one (AC.int IntKind.i64 (IntKind.i64.wrap (k + 2)))), AV.w (AW.one (AC.ptr 0 0)), AV.w (AW.one (AC.ptr 1 0))], [{ ty := 27, cs := [AC.bool (decide (t / IntKind.i64.wrap (n * n) < 0)), AC.fv (Nm.num (t / IntKind.i64.wrap (n * n)))] }, { ty := 27, cs := [AC.bool (decide (0 - t / k < 0)), AC.fv (Nm.num (0 - t / k))] }]), (pickL [(decide (t < 0) == decide (t < 0), true), (decide (Wd.cmpI t 0 > 0), true), (i64B k, true), (decide (k < 0) == decide (k < 0), true), (szB t, true), (szB k, true), (decide (k = 0), false), (decide (4 = 0), false), (k.tmod 4 == 1, false), (decide (t / k < 0) == decide (t / k < 0), true), (szB 0, true), (szB (t / k), true), (i64B (IntKind.i64.wrap (n * n)), true), (decide (IntKind.i64.wrap (n * n) < 0) == decide (IntKind.i64.wrap (n * n) < 0), true), (szB (IntKind.i64.wrap (n * n)), true), (decide (IntKind.i64.wrap (n * n) = 0), false)] [0, 1, 2, 0, 3, 4, 5, 6, 7, 8, 9, 10, 11, 12, 0, 13, 4, 14, 15])) := by kernel_rfl
set_option maxRecDepth 100000 in
theorem rs_11 (u : Int) (t : Int) (s : Int) (k : Int) (rest : List (Nat × AV Nm)) : evView (ctxOf Try.prog numI (fun _ => false) libP0) 76 (false :: [false, true, false, true, true, true, true, true, true, true, true, true, true]) (loopAt (bodyOf Try.f73) [false, true, false, true, true, true, true, true, true, true, true, true, true]) ([(12, (.w (.one (.int .i64 k))))] ++ (ptrN 0 [9, 10, 11] ++ rest)) [⟨27, [.bool (decide (u < 0)), .fv (.num u)]⟩, ⟨27, [.bool (decide (t < 0)), .fv (.num t)]⟩, ⟨27, [.bool (decide (s < 0)), .fv (.num s)]⟩] 3 [12, 9, 10, 11] [true, true] = some ((Ex.normal, [AV.w (AW.one (AC.int IntKind.i64 (IntKind.i64.wrap (k + 2)))), AV.w (AW.one (AC.ptr 0 0)), AV.w (AW.one (AC.ptr 1 0)), AV.w (AW.one (AC.ptr 2 0))], [{ ty := 27, cs := [AC.bool (decide (u < 0)), AC.fv (Nm.num u)] }, { ty := 27, cs := [AC.bool (decide (t * u / twoV 150 / IntKind.i64.wrap (IntKind.i64.wrap (k + 1) * IntKind.i64.wrap (k + 2)) < 0)), AC.fv (Nm.num (t * u / twoV 150 / IntKind.i64.wrap (IntKind.i64.wrap (k + 1) * IntKind.i64.wrap (k + 2))))] }, { ty := 27, cs := [AC.bool (decide (s + t < 0)), AC.fv (Nm.num (s + t))] }]), (pickL [(decide (t < 0) == decide (t < 0), true), (decide (Wd.cmpI t 0 > 0), true), (decide (4 = 0), false), (k.tmod 4 == 1, true), (decide (s < 0) == decide (s < 0), true), (szB s, true), (szB t, true), (decide (u < 0) == decide (u < 0), true), (szB u, true), (twoB 150, true), (decide (t * u < 0) == decide (t * u < 0), true), (decide (twoV 150 < 0) == decide (twoV 150 < 0), true), (szB (t * u), true), (szB (twoV 150), true), (decide (twoV 150 = 0), false), (i64B (IntKind.i64.wrap (IntKind.i64.wrap (k + 1) * IntKind.i64.wrap (k + 2))), true), (decide (t * u / twoV 150 < 0) == decide (t * u / twoV 150 < 0), true), (decide (IntKind.i64.wrap (IntKind.i64.wrap (k + 1) * IntKind.i64.wrap (k + 2)) < 0) == decide (IntKind.i64.wrap (IntKind.i64.wrap (k + 1) * IntKind.i64.wrap (k + 2)) < 0), true), (szB (t * u / twoV 150), true), (szB (IntKind.i64.wrap (IntKind.i64.wrap (k + 1) * IntKind.i64.wrap (k + 2))), true), (decide (IntKind.i64.wrap (IntKind.i64.wrap (k + 1) * IntKind.i64.wrap (k + 2)) = 0), false)] [0, 1, 2, 3, 4, 0, 5, 6, 0, 7, 6, 8, 9, 10, 11, 12, 13, 14, 15, 16, 17, 18, 19, 20])) := by kernel_rfl
set_option maxRecDepth 100000 in
theorem rs_10 (u : Int) (t : Int) (s : Int) (k : Int) (rest : List (Nat × AV Nm)) : evView (ctxOf Try.prog numI (fun _ => false) libP0) 76 (false :: [false, true, false, true, true, true, true, true, true, true, true, true, true]) (loopAt (bodyOf Try.f73) [false, true, false, true, true, true, true, true, true, true, true, true, true]) ([(12, (.w (.one (.int .i64 k))))] ++ (ptrN 0 [9, 10, 11] ++ rest)) [⟨27, [.bool (decide (u < 0)), .fv (.num u)]⟩, ⟨27, [.bool (decide (t < 0)), .fv (.num t)]⟩, ⟨27, [.bool (decide (s < 0)), .fv (.num s)]⟩] 3 [12, 9, 10, 11] [true, false] = some ((Ex.normal, [AV.w (AW.one (AC.int IntKind.i64 (IntKind.i64.wrap (k + 2)))), AV.w (AW.one (AC.ptr 0 0)), AV.w (AW.one (AC.ptr 1 0)), AV.w (AW.one (AC.ptr 2 0))], [{ ty := 27, cs := [AC.bool (decide (u < 0)), AC.fv (Nm.num u)] }, { ty := 27, cs := [AC.bool (decide (t * u / twoV 150 / IntKind.i64.wrap (IntKind.i64.wrap (k + 1) * IntKind.i64.wrap (k + 2)) < 0)), AC.fv (Nm.num (t * u / twoV 150 / IntKind.i64.wrap (IntKind.i64.wrap (k + 1) * IntKind.i64.wrap (k + 2))))] }, { ty := 27, cs := [AC.bool (decide (s - t < 0)), AC.fv (Nm.num (s - t))] }]), (pickL [(decide (t < 0) == decide (t < 0), true), (decide (Wd.cmpI t 0 > 0), true), (decide (4 = 0), false), (k.tmod 4 == 1, false), (decide (s < 0) == decide (s < 0), true), (szB s, true), (szB t, true), (decide (u < 0) == decide (u < 0), true), (szB u, true), (twoB 150, true), (decide (t * u < 0) == decide (t * u < 0), true), (decide (twoV 150 < 0) == decide (twoV 150 < 0), true), (szB (t * u), true), (szB (twoV 150), true), (decide (twoV 150 = 0), false), (i64B (IntKind.i64.wrap (IntKind.i64.wrap (k + 1) * IntKind.i64.wrap (k + 2))), true), (decide (t * u / twoV 150 < 0) == decide (t * u / twoV 150 < 0), true), (decide (IntKind.i64.wrap (IntKind.i64.wrap (k + 1) * IntKind.i64.wrap (k + 2)) < 0) == decide (IntKind.i64.wrap (IntKind.i64.wrap (k + 1) * IntKind.i64.wrap (k + 2)) < 0), true), (szB (t * u / twoV 150), true), (szB (IntKind.i64.wrap (IntKind.i64.wrap (k + 1) * IntKind.i64.wrap (k + 2))), true), (decide (IntKind.i64.wrap (IntKind.i64.wrap (k + 1) * IntKind.i64.wrap (k + 2)) = 0), false)] [0, 1, 2, 3, 4, 0, 5, 6, 0, 7, 6, 8, 9, 10, 11, 12, 13, 14, 15, 16, 17, 18, 19, 20])) := by kernel_rfl
set_option maxRecDepth 100000 in
theorem rz_11 (u : Int) (t : Int) (k : Int) (rest : List (Nat × AV Nm)) : evView (ctxOf Try.prog numI (fun _ => false) libP0) 76 (false :: [false, true, false, true, true, true, true, true, true, true, true, true, true]) (loopAt (bodyOf Try.f73) [false, true, false, true, true, true, true, true, true, true, true, true, true]) ([(12, (.w (.one (.int .i64 k))))] ++ (ptrN 0 [9, 10, 11] ++ rest)) [⟨27, [.bool (decide (u < 0)), .fv (.num u)]⟩, ⟨27, [.bool (decide (t < 0)), .fv (.num t)]⟩, ⟨27, [.yes false, .lit (.slice none 0 0)]⟩] 3 [12, 9, 10, 11] [true, true] = some ((Ex.normal, [AV.w (AW.one (AC.int IntKind.i64 (IntKind.i64.wrap (k + 2)))), AV.w (AW.one (AC.ptr 0 0)), AV.w (AW.one (AC.ptr 1 0)), AV.w (AW.one (AC.ptr 2 0))], [{ ty := 27, cs := [AC.bool (decide (u < 0)), AC.fv (Nm.num u)] }, { ty := 27, cs := [AC.bool (decide (t * u / twoV 150 / IntKind.i64.wrap (IntKind.i64.wrap (k + 1) * IntKind.i64.wrap (k + 2)) < 0)), AC.fv (Nm.num (t * u / twoV 150 / IntKind.i64.wrap (IntKind.i64.wrap (k + 1) * IntKind.i64.wrap (k + 2))))] }, { ty := 27, cs := [AC.bool (decide (0 + t < 0)), AC.fv (Nm.num (0 + t))] }]), (pickL [(decide (t < 0) == decide (t < 0), true), (decide (Wd.cmpI t 0 > 0), true), (decide (4 = 0), false), (k.tmod 4 == 1, true), (szB 0, true), (szB t, true), (decide (u < 0) == decide (u < 0), true), (szB u, true), (twoB 150, true), (decide (t * u < 0) == decide (t * u < 0), true), (decide (twoV 150 < 0) == decide (twoV 150 < 0), true), (szB (t * u), true), (szB (twoV 150), true), (decide (twoV 150 = 0), false), (i64B (IntKind.i64.wrap (IntKind.i64.wrap (k + 1) * IntKind.i64.wrap (k + 2))), true), (decide (t * u / twoV 150 < 0) == decide (t * u / twoV 150 < 0), true), (decide (IntKind.i64.wrap (IntKind.i64.wrap (k + 1) * IntKind.i64.wrap (k + 2)) < 0) == decide (IntKind.i64.wrap (IntKind.i64.wrap (k + 1) * IntKind.i64.wrap (k + 2)) < 0), true), (szB (t * u / twoV 150), true), (szB (IntKind.i64.wrap (IntKind.i64.wrap (k + 1) * IntKind.i64.wrap (k + 2))), true), (decide (IntKind.i64.wrap (IntKind.i64.wrap (k + 1) * IntKind.i64.wrap (k + 2)) = 0), false)] [0, 1, 2, 3, 0, 4, 5, 0, 6, 5, 7, 8, 9, 10, 11, 12, 13, 14, 15, 16, 17, 18, 19])) := by kernel_rfl
set_option maxRecDepth 100000 in
theorem rz_10 (u : Int) (t : Int) (k : Int) (rest : List (Nat × AV Nm)) : evView (ctxOf Try.prog numI (fun _ => false) libP0) 76 (false :: [false, true, false, true, true, true, true, true, true, true, true, true, true]) (loopAt (bodyOf Try.f73) [false, true, false, true, true, true, true, true, true, true, true, true, true]) ([(12, (.w (.one (.int .i64 k))))] ++ (ptrN 0 [9, 10, 11] ++ rest)) [⟨27, [.bool (decide (u < 0)), .fv (.num u)]⟩, ⟨27, [.bool (decide (t < 0)), .fv (.num t)]⟩, ⟨27, [.yes false, .lit (.slice none 0 0)]⟩] 3 [12, 9, 10, 11] [true, false] = some ((Ex.normal, [AV.w (AW.one (AC.int IntKind.i64 (IntKind.i64.wrap (k + 2)))), AV.w (AW.one (AC.ptr 0 0)), AV.w (AW.one (AC.ptr 1 0)), AV.w (AW.one (AC.ptr 2 0))], [{ ty := 27, cs := [AC.bool (decide (u < 0)), AC.fv (Nm.num u)] }, { ty := 27, cs := [AC.bool (decide (t * u / twoV 150 / IntKind.i64.wrap (IntKind.i64.wrap (k + 1) * IntKind.i64.wrap (k + 2)) < 0)), AC.fv (Nm.num (t * u / twoV 150 / IntKind.i64.wrap (IntKind.i64.wrap (k + 1) * IntKind.i64.wrap (k + 2))))] }, { ty := 27, cs := [AC.bool (decide (0 - t < 0)), AC.fv (Nm.num (0 - t))] }]), (pickL [(decide (t < 0) == decide (t < 0), true), (decide (Wd.cmpI t 0 > 0), true), (decide (4 = 0), false), (k.tmod 4 == 1, false), (szB 0, true), (szB t, true), (decide (u < 0) == decide (u < 0), true), (szB u, true), (twoB 150, true), (decide (t * u < 0) == decide (t * u < 0), true), (decide (twoV 150 < 0) == decide (twoV 150 < 0), true), (szB (t * u), true), (szB (twoV 150), true), (decide (twoV 150 = 0), false), (i64B (IntKind.i64.wrap (IntKind.i64.wrap (k + 1) * IntKind.i64.wrap (k + 2))), true), (decide (t * u / twoV 150 < 0) == decide (t * u / twoV 150 < 0), true), (decide (IntKind.i64.wrap (IntKind.i64.wrap (k + 1) * IntKind.i64.wrap (k + 2)) < 0) == decide (IntKind.i64.wrap (IntKind.i64.wrap (k + 1) * IntKind.i64.wrap (k + 2)) < 0), true), (szB (t * u / twoV 150), true), (szB (IntKind.i64.wrap (IntKind.i64.wrap (k + 1) * IntKind.i64.wrap (k + 2))), true), (decide (IntKind.i64.wrap (IntKind.i64.wrap (k + 1) * IntKind.i64.wrap (k + 2)) = 0), false)] [0, 1, 2, 3, 0, 4, 5, 0, 6, 5, 7, 8, 9, 10, 11, 12, 13, 14, 15, 16, 17, 18, 19])) := by kernel_rfl
set_option maxRecDepth 100000 in
theorem asx_0 (n : Int) (t : Int) (s : Int) (k : Int) (rest : List (Nat × AV Nm)) : evView (ctxOf Try.prog numI (fun _ => false) libP0) 36 (false :: [false, true, false, true, true, true]) (loopAt (bodyOf Try.f139) [false, true, false, true, true, true]) ([(0, (.w (.one (.int .i64 n)))), (5, (.w (.one (.int .i64 k))))] ++ (ptrN 0 [3, 4] ++ rest)) [⟨27, [.bool (decide (t < 0)), .fv (.num t)]⟩, ⟨27, [.bool (decide (s < 0)), .fv (.num s)]⟩] 2 [3, 4] [false] = some ((Ex.exit 0, [AV.w (AW.one (AC.ptr 0 0)), AV.w (AW.one (AC.ptr 1 0))], [{ ty := 27, cs := [AC.bool (decide (t < 0)), AC.fv (Nm.num t)] }, { ty := 27, cs := [AC.bool (decide (s < 0)), AC.fv (Nm.num s)] }]), (pickL [(decide (t < 0) == decide (t < 0), true), (decide (Wd.cmpI t 0 > 0), false)] [0, 1])) := by kernel_rfl
set_option maxRecDepth 100000 in
theorem azx_0 (n : Int) (t : Int) (k : Int) (rest : List (Nat × AV Nm)) : evView (ctxOf Try.prog numI (fun _ => false) libP0) 36 (false :: [false, true, false, true, true, true]) (loopAt (bodyOf Try.f139) [false, true, false, true, true, true]) ([(0, (.w (.one (.int .i64 n)))), (5, (.w (.one (.int .i64 k))))] ++ (ptrN 0 [3, 4] ++ rest)) [⟨27, [.bool (decide (t < 0)), .fv (.num t)]⟩, ⟨27, [.yes false, .lit (.slice none 0 0)]⟩] 2 [3, 4] [false] = some ((Ex.exit 0, [AV.w (AW.one (AC.ptr 0 0)), AV.w (AW.one (AC.ptr 1 0))], [{ ty := 27, cs := [AC.bool (decide (t < 0)), AC.fv (Nm.num t)] }, { ty := 27, cs := [AC.yes false, AC.lit (Value.slice none 0 0)] }]), (pickL [(decide (t < 0) == decide (t < 0), true), (decide (Wd.cmpI t 0 > 0), false)] [0, 1])) := by kernel_rfl
set_option maxRecDepth 100000 in
theorem rsx_0 (u : Int) (t : Int) (s : Int) (k : Int) (rest : List (Nat × AV Nm)) : evView (ctxOf Try.prog numI (fun _ => false) libP0) 76 (false :: [false, true, false, true, true, true, true, true, true, true, true, true, true]) (loopAt (bodyOf Try.f73) [false, true, false, true, true, true, true, true, true, true, true, true, true]) ([(12, (.w (.one (.int .i64 k))))] ++ (ptrN 0 [9, 10, 11] ++ rest)) [⟨27, [.bool (decide (u < 0)), .fv (.num u)]⟩, ⟨27, [.bool (decide (t < 0)), .fv (.num t)]⟩, ⟨27, [.bool (decide (s < 0)), .fv (.num s)]⟩] 3 [9, 10, 11] [false] = some ((Ex.exit 0, [AV.w (AW.one (AC.ptr 0 0)), AV.w (AW.one (AC.ptr 1 0)), AV.w (AW.one (AC.ptr 2 0))], [{ ty := 27, cs := [AC.bool (decide (u < 0)), AC.fv (Nm.num u)] }, { ty := 27, cs := [AC.bool (decide (t < 0)), AC.fv (Nm.num t)] }, { ty := 27, cs := [AC.bool (decide (s < 0)), AC.fv (Nm.num s)] }]), (pickL [(decide (t < 0) == decide (t < 0), true), (decide (Wd.cmpI t 0 > 0), false)] [0, 1])) := by kernel_rfl
set_option maxRecDepth 100000 in
theorem rzx_0 (u : Int) (t : Int) (k : Int) (rest : List (Nat × AV Nm)) : evView (ctxOf Try.prog numI (fun _ => false) libP0) 76 (false :: [false, true, false, true, true, true, true, true, true, true, true, true, true]) (loopAt (bodyOf Try.f73) [false, true, false, true, true, true, true, true, true, true, true, true, true]) ([(12, (.w (.one (.int .i64 k))))] ++ (ptrN 0 [9, 10, 11] ++ rest)) [⟨27, [.bool (decide (u < 0)), .fv (.num u)]⟩, ⟨27, [.bool (decide (t < 0)), .fv (.num t)]⟩, ⟨27, [.yes false, .lit (.slice none 0 0)]⟩] 3 [9, 10, 11] [false] = some ((Ex.exit 0, [AV.w (AW.one (AC.ptr 0 0)), AV.w (AW.one (AC.ptr 1 0)), AV.w (AW.one (AC.ptr 2 0))], [{ ty := 27, cs := [AC.bool (decide (u < 0)), AC.fv (Nm.num u)] }, { ty := 27, cs := [AC.bool (decide (t < 0)), AC.fv (Nm.num t)] }, { ty := 27, cs := [AC.yes false, AC.lit (Value.slice none 0 0)] }]), (pickL [(decide (t < 0) == decide (t < 0), true), (decide (Wd.cmpI t 0 > 0), false)] [0, 1])) := by kernel_rfl
theorem Dl.big {z : Int} (h1 : -100000000000000000000000000000000000000000000000000000000000 ≤ z) (h2 : z ≤ 100000000000000000000000000000000000000000000000000000000000) : Dl 10 z := by
  have h : z.natAbs < 1000000 ^ 10 := by
    rw [show (1000000 : Nat) ^ 10 = 1000000000000000000000000000000000000000000000000000000000000 by decide +kernel]; omega
  exact digs_len h
theorem d_150 : Dl 10 (twoV 150) := by rw [two_150]; exact Dl.big (by omega) (by omega)
theorem z_150 : decide (twoV 150 = 0) = false := by decide +kernel
theorem cmp_pos (t : Int) : decide (cmpI t 0 > 0) = decide (0 < t) := by
  unfold cmpI
  by_cases h : t < 0
  · rw [if_pos h, decide_eq_false (show ¬ 0 < t by omega)]; rfl
  · rw [if_neg h]
    by_cases g : 0 < t
    · rw [if_pos g, decide_eq_true g]; rfl
    · rw [if_neg g, decide_eq_false g]; rfl
theorem tmod4 {k : Int} (h : 1 ≤ k) : (k.tmod 4 == 1) = decide (k % 4 = 1) := by
  rw [Int.tmod_eq_emod_of_nonneg (by omega)]
  by_cases g : k % 4 = 1
  · rw [decide_eq_true g, g]; rfl
  · rw [decide_eq_false g]; simpa using g
def sv : Option Int → Int
  | none => 0
  | some s => s
def sB : Option Int → Blk Nm
  | none => ⟨27, [.yes false, .lit (.slice none 0 0)]⟩
  | some s => ⟨27, [.bool (decide (s < 0)), .fv (.num s)]⟩
/-- atan's state. -/
structure ATs where
  n : Int
  t : Int
  s : Option Int
  k : Int
  b : Bool
def atS : LpSt ATs Nm where
  ps := [3, 4]
  tm := fun t => [(0, (.w (.one (.int .i64 t.n)))), (5, (.w (.one (.int .i64 t.k))))]
  hp := fun t => [⟨27, [.bool t.b, .fv (.num t.t)]⟩, sB t.s]
def ATs.ok (t : ATs) : Bool := decide (2 ≤ t.n) && decide (t.n ≤ 1000) && decide (0 ≤ t.t) && decide (t.t ≤ 5708990770823839524233143877797980545530986496) && decide (1 ≤ t.k) && decide (t.k ≤ 1000) && decide (-(t.k * 5708990770823839524233143877797980545530986496) ≤ sv t.s) && decide (sv t.s ≤ t.k * 5708990770823839524233143877797980545530986496) && (t.b == decide (t.t < 0))
def atStep (t : ATs) : Nxt ATs Nm := if t.ok = true then (if 0 < t.t then .go ⟨t.n, t.t / (t.n * t.n), some (if t.k % 4 = 1 then sv t.s + t.t / t.k else sv t.s - t.t / t.k), t.k + 2, decide (t.t / (t.n * t.n) < 0)⟩ else .out (.exit 0) [] [⟨27, [.bool (decide (t.t < 0)), .fv (.num t.t)]⟩, sB t.s]) else .bad
set_option maxRecDepth 100000 in
set_option maxHeartbeats 4000000 in
theorem at_round (t : ATs) (hb : (atStep t).isBad = false) (rest : List (Nat × AV Nm)) : ∃ fuel path r, evC (ctxOf Try.prog numI (fun _ => false) libP0) fuel 36 (false :: [false, true, false, true, true, true]) (loopAt (bodyOf Try.f139) [false, true, false, true, true, true]) (atS.tm t ++ (ptrN 0 atS.ps ++ rest)) (numb 0 (atS.hp t)) 2 path = some r ∧ (∀ p ∈ r.cd, p.1 = p.2) ∧ Gives atS 2 r (atStep t) := by
  obtain ⟨n, t, s, k, b⟩ := t
  unfold atStep at hb ⊢
  cases hok : ATs.ok ⟨n, t, s, k, b⟩ with
  | false => rw [hok] at hb; cases hb
  | true =>
  clear hb
  simp only [if_true]
  simp only [ATs.ok, Bool.and_eq_true, decide_eq_true_eq, beq_iff_eq] at hok
  obtain ⟨⟨⟨⟨⟨⟨⟨⟨h1, h2⟩, h3⟩, h4⟩, h5⟩, h6⟩, h7⟩, h8⟩, hbq⟩ := hok
  have hbq : b = decide (t < 0) := hbq
  subst hbq
  have hnn : n * n ≤ 1000 * 1000 := Int.mul_le_mul h2 h2 (by omega) (by omega)
  have hn0 : 0 < n * n := Int.mul_pos (by omega) (by omega)
  have w1 : IntKind.i64.wrap (n * n) = n * n := i64w (by omega) (by omega)
  have w2 : IntKind.i64.wrap (k + 2) = k + 2 := i64w (by omega) (by omega)
  have i1 : i64B k = true := i64B_iff.2 (by omega)
  have i2 : i64B (n * n) = true := i64B_iff.2 (by omega)
  have d1 := Dl.i64 i1
  have d2 := Dl.i64 i2
  have d3 : Dl 10 t := Dl.big (by omega) (by omega)
  have d5 : Dl 4 0 := Dl.lit (by omega) (by omega)
  have e1 : decide (k = 0) = false := decide_eq_false (by omega)
  have e2 : decide (n * n = 0) = false := decide_eq_false (by omega)
  by_cases hl : 0 < t
  · have c0 : decide (cmpI t 0 > 0) = true := by rw [cmp_pos]; exact decide_eq_true hl
    simp only [if_pos hl]
    by_cases h4k : k % 4 = 1
    · have c1 : (k.tmod 4 == 1) = true := by rw [tmod4 h5]; exact decide_eq_true h4k
      simp only [if_pos h4k]
      cases s with
      | none =>
        have L := az_11 n t k rest
        rw [w1, w2] at L
        refine round_go L (pickL_ok ?_ _) rfl rfl rfl rfl
        repeat' (first | exact cd_nil | refine cd_cons ?_ ?_)
        all_goals first | rfl | with_reducible assumption | exact eq_self_b' _ | (with_reducible apply Dl.sz; (repeat' (first | with_reducible assumption | with_reducible apply Dl.mul | with_reducible apply Dl.div)); omega)
      | some s =>
        have d4 : Dl 10 s := Dl.big (by simp only [sv] at h7; omega) (by simp only [sv] at h8; omega)
        have L := as_11 n t s k rest
        rw [w1, w2] at L
        refine round_go L (pickL_ok ?_ _) rfl rfl rfl rfl
        repeat' (first | exact cd_nil | refine cd_cons ?_ ?_)
        all_goals first | rfl | with_reducible assumption | exact eq_self_b' _ | (with_reducible apply Dl.sz; (repeat' (first | with_reducible assumption | with_reducible apply Dl.mul | with_reducible apply Dl.div)); omega)
    · have c1 : (k.tmod 4 == 1) = false := by rw [tmod4 h5]; exact decide_eq_false h4k
      simp only [if_neg h4k]
      cases s with
      | none =>
        have L := az_10 n t k rest
        rw [w1, w2] at L
        refine round_go L (pickL_ok ?_ _) rfl rfl rfl rfl
        repeat' (first | exact cd_nil | refine cd_cons ?_ ?_)
        all_goals first | rfl | with_reducible assumption | exact eq_self_b' _ | (with_reducible apply Dl.sz; (repeat' (first | with_reducible assumption | with_reducible apply Dl.mul | with_reducible apply Dl.div)); omega)
      | some s =>
        have d4 : Dl 10 s := Dl.big (by simp only [sv] at h7; omega) (by simp only [sv] at h8; omega)
        have L := as_10 n t s k rest
        rw [w1, w2] at L
        refine round_go L (pickL_ok ?_ _) rfl rfl rfl rfl
        repeat' (first | exact cd_nil | refine cd_cons ?_ ?_)
        all_goals first | rfl | with_reducible assumption | exact eq_self_b' _ | (with_reducible apply Dl.sz; (repeat' (first | with_reducible assumption | with_reducible apply Dl.mul | with_reducible apply Dl.div)); omega)
  · have c0 : decide (cmpI t 0 > 0) = false := by rw [cmp_pos]; exact decide_eq_false hl
    simp only [if_neg hl]
    cases s with
    | none =>
      refine round_out (azx_0 n t k rest) rfl (pickL_ok ?_ _) rfl rfl rfl
      repeat' (first | exact cd_nil | refine cd_cons ?_ ?_)
      all_goals first | rfl | with_reducible assumption | exact eq_self_b' _ | (with_reducible apply Dl.sz; (repeat' (first | with_reducible assumption | with_reducible apply Dl.mul | with_reducible apply Dl.div)); omega)
    | some s =>
      refine round_out (asx_0 n t s k rest) rfl (pickL_ok ?_ _) rfl rfl rfl
      repeat' (first | exact cd_nil | refine cd_cons ?_ ?_)
      all_goals first | rfl | with_reducible assumption | exact eq_self_b' _ | (with_reducible apply Dl.sz; (repeat' (first | with_reducible assumption | with_reducible apply Dl.mul | with_reducible apply Dl.div)); omega)
/-- RealSine's state. -/
structure RSs where
  u : Int
  t : Int
  s : Option Int
  k : Int
  bu : Bool
  bt : Bool
def rsS : LpSt RSs Nm where
  ps := [9, 10, 11]
  tm := fun t => [(12, (.w (.one (.int .i64 t.k))))]
  hp := fun t => [⟨27, [.bool t.bu, .fv (.num t.u)]⟩, ⟨27, [.bool t.bt, .fv (.num t.t)]⟩, sB t.s]
def RSs.ok (t : RSs) : Bool := decide (0 ≤ t.u) && decide (t.u ≤ 5708990770823839524233143877797980545530986496) && decide (0 ≤ t.t) && decide (t.t ≤ 5708990770823839524233143877797980545530986496) && decide (1 ≤ t.k) && decide (t.k ≤ 1000) && decide (-(t.k * 5708990770823839524233143877797980545530986496) ≤ sv t.s) && decide (sv t.s ≤ t.k * 5708990770823839524233143877797980545530986496) && (t.bu == decide (t.u < 0)) && (t.bt == decide (t.t < 0))
def rsT (u t k : Int) : Int := t * u / twoV 150 / ((k + 1) * (k + 2))
def rsA (s t k : Int) : Int := if k % 4 = 1 then s + t else s - t
def rsStep (t : RSs) : Nxt RSs Nm := if t.ok = true then (if 0 < t.t then .go ⟨t.u, rsT t.u t.t t.k, some (rsA (sv t.s) t.t t.k), t.k + 2, t.bu, decide (rsT t.u t.t t.k < 0)⟩ else .out (.exit 0) [] [⟨27, [.bool (decide (t.u < 0)), .fv (.num t.u)]⟩, ⟨27, [.bool (decide (t.t < 0)), .fv (.num t.t)]⟩, sB t.s]) else .bad
set_option maxRecDepth 100000 in
set_option maxHeartbeats 4000000 in
theorem rs_round (t : RSs) (hb : (rsStep t).isBad = false) (rest : List (Nat × AV Nm)) : ∃ fuel path r, evC (ctxOf Try.prog numI (fun _ => false) libP0) fuel 76 (false :: [false, true, false, true, true, true, true, true, true, true, true, true, true]) (loopAt (bodyOf Try.f73) [false, true, false, true, true, true, true, true, true, true, true, true, true]) (rsS.tm t ++ (ptrN 0 rsS.ps ++ rest)) (numb 0 (rsS.hp t)) 3 path = some r ∧ (∀ p ∈ r.cd, p.1 = p.2) ∧ Gives rsS 3 r (rsStep t) := by
  obtain ⟨u, t, s, k, bu, bt⟩ := t
  unfold rsStep at hb ⊢
  cases hok : RSs.ok ⟨u, t, s, k, bu, bt⟩ with
  | false => rw [hok] at hb; cases hb
  | true =>
  clear hb
  simp only [if_true]
  simp only [RSs.ok, Bool.and_eq_true, decide_eq_true_eq, beq_iff_eq] at hok
  obtain ⟨⟨⟨⟨⟨⟨⟨⟨⟨h1, h2⟩, h3⟩, h4⟩, h5⟩, h6⟩, h7⟩, h8⟩, hb1⟩, hb2⟩ := hok
  have hbq : bu = decide (u < 0) := hb1
  have hbr : bt = decide (t < 0) := hb2
  clear hb1 hb2
  subst hbq hbr
  have hkk : (k + 1) * (k + 2) ≤ 1001 * 1002 := Int.mul_le_mul (by omega) (by omega) (by omega) (by omega)
  have hk0 : 0 < (k + 1) * (k + 2) := Int.mul_pos (by omega) (by omega)
  have w1 : IntKind.i64.wrap (k + 1) = k + 1 := i64w (by omega) (by omega)
  have w2 : IntKind.i64.wrap (k + 2) = k + 2 := i64w (by omega) (by omega)
  have w3 : IntKind.i64.wrap ((k + 1) * (k + 2)) = (k + 1) * (k + 2) := i64w (by omega) (by omega)
  have i2 : i64B ((k + 1) * (k + 2)) = true := i64B_iff.2 (by omega)
  have d2 := Dl.i64 i2
  have d3 : Dl 10 t := Dl.big (by omega) (by omega)
  have d6 : Dl 10 u := Dl.big (by omega) (by omega)
  have d7 := d_150
  have d5 : Dl 4 0 := Dl.lit (by omega) (by omega)
  have e2 : decide ((k + 1) * (k + 2) = 0) = false := decide_eq_false (by omega)
  have e3 := z_150
  by_cases hl : 0 < t
  · have c0 : decide (cmpI t 0 > 0) = true := by rw [cmp_pos]; exact decide_eq_true hl
    simp only [if_pos hl]
    by_cases h4k : k % 4 = 1
    · have c1 : (k.tmod 4 == 1) = true := by rw [tmod4 h5]; exact decide_eq_true h4k
      simp only [rsA, rsT, if_pos h4k]
      cases s with
      | none =>
        have L := rz_11 u t k rest
        rw [w2, w1, w3] at L
        refine round_go L (pickL_ok ?_ _) rfl rfl rfl rfl
        repeat' (first | exact cd_nil | refine cd_cons ?_ ?_)
        all_goals first | rfl | with_reducible assumption | exact eq_self_b' _ | (with_reducible apply Dl.sz; (repeat' (first | with_reducible assumption | with_reducible apply Dl.mul | with_reducible apply Dl.div)); omega)
      | some s =>
        have d4 : Dl 10 s := Dl.big (by simp only [sv] at h7; omega) (by simp only [sv] at h8; omega)
        have L := rs_11 u t s k rest
        rw [w2, w1, w3] at L
        refine round_go L (pickL_ok ?_ _) rfl rfl rfl rfl
        repeat' (first | exact cd_nil | refine cd_cons ?_ ?_)
        all_goals first | rfl | with_reducible assumption | exact eq_self_b' _ | (with_reducible apply Dl.sz; (repeat' (first | with_reducible assumption | with_reducible apply Dl.mul | with_reducible apply Dl.div)); omega)
    · have c1 : (k.tmod 4 == 1) = false := by rw [tmod4 h5]; exact decide_eq_false h4k
      simp only [rsA, rsT, if_neg h4k]
      cases s with
      | none =>
        have L := rz_10 u t k rest
        rw [w2, w1, w3] at L
        refine round_go L (pickL_ok ?_ _) rfl rfl rfl rfl
        repeat' (first | exact cd_nil | refine cd_cons ?_ ?_)
        all_goals first | rfl | with_reducible assumption | exact eq_self_b' _ | (with_reducible apply Dl.sz; (repeat' (first | with_reducible assumption | with_reducible apply Dl.mul | with_reducible apply Dl.div)); omega)
      | some s =>
        have d4 : Dl 10 s := Dl.big (by simp only [sv] at h7; omega) (by simp only [sv] at h8; omega)
        have L := rs_10 u t s k rest
        rw [w2, w1, w3] at L
        refine round_go L (pickL_ok ?_ _) rfl rfl rfl rfl
        repeat' (first | exact cd_nil | refine cd_cons ?_ ?_)
        all_goals first | rfl | with_reducible assumption | exact eq_self_b' _ | (with_reducible apply Dl.sz; (repeat' (first | with_reducible assumption | with_reducible apply Dl.mul | with_reducible apply Dl.div)); omega)
  · have c0 : decide (cmpI t 0 > 0) = false := by rw [cmp_pos]; exact decide_eq_false hl
    simp only [if_neg hl]
    cases s with
    | none =>
      refine round_out (rzx_0 u t k rest) rfl (pickL_ok ?_ _) rfl rfl rfl
      repeat' (first | exact cd_nil | refine cd_cons ?_ ?_)
      all_goals first | rfl | with_reducible assumption | exact eq_self_b' _ | (with_reducible apply Dl.sz; (repeat' (first | with_reducible assumption | with_reducible apply Dl.mul | with_reducible apply Dl.div)); omega)
    | some s =>
      refine round_out (rsx_0 u t s k rest) rfl (pickL_ok ?_ _) rfl rfl rfl
      repeat' (first | exact cd_nil | refine cd_cons ?_ ?_)
      all_goals first | rfl | with_reducible assumption | exact eq_self_b' _ | (with_reducible apply Dl.sz; (repeat' (first | with_reducible assumption | with_reducible apply Dl.mul | with_reducible apply Dl.div)); omega)
theorem at_5 : runs atStep 40 ⟨5, 285449538541191976211657193889899027276549324, none, 1, false⟩ = some (.exit 0, [], [⟨27, [.bool false, .fv (.num 0)]⟩, sB (some 281732357346143524811918798913392601580184645)]) := by kernel_rfl
theorem at_239 : runs atStep 40 ⟨239, 5971747668225773560913330416106674210806471, none, 1, false⟩ = some (.exit 0, [], [⟨27, [.bool false, .fv (.num 0)]⟩, sB (some 5971712820067526643962988684988587850485892)]) := by kernel_rfl
def atV (n : Int) : Int := if n = 5 then 281732357346143524811918798913392601580184645 else 5971712820067526643962988684988587850485892
def at2 (n : Int) : Bool := n == 5 || n == 239
def atD : LpDef ATs Nm where
  ts := [0, 5]
  ps := [3, 4]
  W := [0, 3, 4, 5, 6, 11, 12, 13, 14, 15, 16, 17, 18, 19, 20, 21, 22, 23, 24, 25, 26, 27, 28, 29, 30, 31, 32, 33, 34]
  dec := fun vs ks => match vs, ks with
    | [.w (.one (.int .i64 n)), .w (.one (.int .i64 k))], [⟨t0, [.bool b, .fv (.num t)]⟩, ⟨t1, [.yes false, .lit (.slice none 0 0)]⟩] => bif Nat.beq t0 27 && Nat.beq t1 27 then some ⟨n, t, none, k, b⟩ else none
    | _, _ => none
  spec := fun t => some (.exit 0, [], [⟨27, [.bool false, .fv (.num 0)]⟩, sB (some (atV t.n))], [(at2 t.n && decide (t.t = twoV 150 / t.n) && t.s.isNone && decide (t.k = 1) && !t.b, true)])
theorem atD_ok (x : Code) (hx : codeAt (bodyOf Try.f139) [false, true, false, true, true, true] = some (.loop x)) : LpOk Try.prog numI 36 x (atD.sp nmSafe) := by
  obtain rfl := loopAt_eq hx
  refine lp_ok (c := ctxOf Try.prog numI (fun _ => false) libP0) (ctxOf_ok libP0_ok (eq_none _)) (by kernel_rfl) hx lps_nil (S := atS) (step := atStep) (fun _ h => h) (by kernel_rfl) (by kernel_rfl) ?_ rfl (fun t e he => ?_) (fun t hb rest => at_round t hb rest) ?_
  · intro vs ks s hv1 h hv2
    simp only [atD] at h
    split at h
    · rename_i n k t0 b t t1
      cases hb : Nat.beq t0 27 && Nat.beq t1 27 with
      | false => rw [hb] at h; cases h
      | true =>
        rw [hb] at h
        cases h
        simp only [Bool.and_eq_true] at hb
        obtain rfl := Nat.eq_of_beq_eq_true hb.1
        obtain rfl := Nat.eq_of_beq_eq_true hb.2
        exact ⟨rfl, fun e he => he⟩
    · cases h
  · simp only [atS, List.mem_cons, List.not_mem_nil, or_false] at he
    rcases he with rfl | rfl <;> rfl
  · intro s ex outs wb cd h hc
    obtain ⟨n, t, s, k, b⟩ := s
    simp only [atD] at h
    cases h
    have := hc _ (List.mem_cons_self)
    simp only [at2, Bool.and_eq_true, Bool.or_eq_true, decide_eq_true_eq, beq_iff_eq, Bool.not_eq_true'] at this
    obtain ⟨⟨⟨⟨h1, rfl⟩, h3⟩, rfl⟩, rfl⟩ := this
    cases s with
    | some s => cases h3
    | none =>
      rcases h1 with rfl | rfl
      · exact ⟨40, at_5⟩
      · exact ⟨40, at_239⟩
theorem lps_at : LpsOk Try.prog numI [((36, [false, true, false, true, true, true]), atD.sp nmSafe)] Try.f139.ntmps (bodyOf Try.f139) := lps_cons (fun _ x hx => atD_ok x hx) lps_nil
/-- The sum of the sine's series, from a term on. -/
def rsF (u : Int) : Nat → Int → Int → Int → Int
  | 0, _, s, _ => s
  | n + 1, t, s, k => if 0 < t then rsF u n (rsT u t k) (rsA s t k) (k + 2) else s
theorem rsT_half {u t k : Int} (u0 : 0 ≤ u) (u1 : u ≤ 4281743078117879643174857908348485409148239872) (t0 : 0 ≤ t) (hk : 1 ≤ k) : 0 ≤ rsT u t k ∧ 2 * rsT u t k ≤ t := by
  unfold rsT
  rw [two_150]
  have h0 : 0 ≤ t * u := Int.mul_nonneg t0 u0
  have h1 : t * u ≤ t * 4281743078117879643174857908348485409148239872 := Int.mul_le_mul_of_nonneg_left u1 t0
  have h2 : 0 ≤ t * u / 1427247692705959881058285969449495136382746624 := Int.ediv_nonneg h0 (by omega)
  have h3 : t * u / 1427247692705959881058285969449495136382746624 ≤ 3 * t := by omega
  have h4 : 6 ≤ (k + 1) * (k + 2) := by
    have := Int.mul_le_mul (show 2 ≤ k + 1 by omega) (show 3 ≤ k + 2 by omega) (by omega) (by omega)
    omega
  have h5 : t * u / 1427247692705959881058285969449495136382746624 / ((k + 1) * (k + 2)) ≤ t * u / 1427247692705959881058285969449495136382746624 / 6 := by
    rw [Int.le_ediv_iff_mul_le (by omega)]
    have a := Int.ediv_mul_le (t * u / 1427247692705959881058285969449495136382746624) (b := (k + 1) * (k + 2)) (by omega)
    have b := Int.ediv_nonneg h2 (show 0 ≤ (k + 1) * (k + 2) by omega)
    have c := Int.mul_le_mul_of_nonneg_left h4 b
    omega
  have h6 := Int.ediv_nonneg h2 (show 0 ≤ (k + 1) * (k + 2) by omega)
  omega
theorem rs_runs {u : Int} (u0 : 0 ≤ u) (u1 : u ≤ 4281743078117879643174857908348485409148239872) : ∀ (n : Nat) (t : Int) (s : Option Int) (k : Int), 0 ≤ t → t < 2 ^ n → t ≤ 5708990770823839524233143877797980545530986496 → 1 ≤ k → k + 2 * n ≤ 1000 → -(k * 5708990770823839524233143877797980545530986496) ≤ sv s → sv s ≤ k * 5708990770823839524233143877797980545530986496 →
    ∃ m, runs rsStep m ⟨u, t, s, k, decide (u < 0), decide (t < 0)⟩ = some (.exit 0, [], [⟨27, [.bool (decide (u < 0)), .fv (.num u)]⟩, ⟨27, [.bool (decide ((0 : Int) < 0)), .fv (.num 0)]⟩, sB (if 0 < t then some (rsF u n t (sv s) k) else s)])
  | n, t, s, k, h0, h1, h2, h3, h4, h5, h6 => by
    have ok : RSs.ok ⟨u, t, s, k, decide (u < 0), decide (t < 0)⟩ = true := by
      simp only [RSs.ok, Bool.and_eq_true, decide_eq_true_eq, beq_self_eq_true, and_true]
      omega
    by_cases hl : 0 < t
    · cases n with
      | zero => simp at h1; omega
      | succ n =>
        have e2 : (2 : Int) ^ (n + 1) = 2 * 2 ^ n := by rw [Int.pow_succ]; omega
        rw [e2] at h1
        obtain ⟨g0, g1⟩ := rsT_half u0 u1 h0 h3
        have ga : -((k + 2) * 5708990770823839524233143877797980545530986496) ≤ rsA (sv s) t k ∧ rsA (sv s) t k ≤ (k + 2) * 5708990770823839524233143877797980545530986496 := by unfold rsA; split <;> omega
        obtain ⟨m, hm⟩ := rs_runs u0 u1 n (rsT u t k) (some (rsA (sv s) t k)) (k + 2) g0 (by omega) (by omega) (by omega) (by omega) ga.1 ga.2
        refine ⟨m + 1, ?_⟩
        rw [if_pos hl]
        have e : rsF u (n + 1) t (sv s) k = rsF u n (rsT u t k) (rsA (sv s) t k) (k + 2) := by rw [rsF, if_pos hl]
        have e' : (if 0 < rsT u t k then some (rsF u n (rsT u t k) (sv (some (rsA (sv s) t k))) (k + 2)) else some (rsA (sv s) t k)) = some (rsF u n (rsT u t k) (rsA (sv s) t k) (k + 2)) := by
          split
          · rfl
          · rename_i hz
            cases n <;> simp [rsF, hz]
        rw [e'] at hm
        rw [e, ← hm, runs]
        simp only [rsStep, if_pos ok, if_pos hl]
    · obtain rfl : t = 0 := by omega
      refine ⟨1, ?_⟩
      rw [runs]
      simp only [rsStep, if_pos ok, if_neg hl]
def rsD (pos : Bool) : LpDef RSs Nm where
  ts := [12]
  ps := [9, 10, 11]
  W := [9, 10, 11, 12, 46, 47, 48, 49, 50, 51, 52, 53, 54, 55, 56, 57, 58, 59, 60, 61, 62, 63, 64, 65, 66, 67, 68, 69, 70, 71]
  dec := fun vs ks => match vs, ks with
    | [.w (.one (.int .i64 k))], [⟨t0, [.bool bu, .fv (.num u)]⟩, ⟨t1, [.bool bt, .fv (.num t)]⟩, ⟨t2, [.yes false, .lit (.slice none 0 0)]⟩] => bif Nat.beq t0 27 && Nat.beq t1 27 && Nat.beq t2 27 then some ⟨u, t, none, k, bu, bt⟩ else none
    | _, _ => none
  spec := fun t => some (.exit 0, [], [⟨27, [.bool (decide (t.u < 0)), .fv (.num t.u)]⟩, ⟨27, [.bool (decide ((0 : Int) < 0)), .fv (.num 0)]⟩, sB (bif pos then some (rsF t.u 160 t.t 0 1) else none)], [(t.ok && decide (t.u ≤ 4281743078117879643174857908348485409148239872) && t.s.isNone && decide (t.k = 1) && (pos == decide (0 < t.t)), true)])
theorem rsD_ok (pos : Bool) (x : Code) (hx : codeAt (bodyOf Try.f73) [false, true, false, true, true, true, true, true, true, true, true, true, true] = some (.loop x)) : LpOk Try.prog numI 76 x ((rsD pos).sp nmSafe) := by
  obtain rfl := loopAt_eq hx
  refine lp_ok (c := ctxOf Try.prog numI (fun _ => false) libP0) (ctxOf_ok libP0_ok (eq_none _)) (by kernel_rfl) hx lps_nil (S := rsS) (step := rsStep) (fun _ h => h) (by kernel_rfl) (by kernel_rfl) ?_ rfl (fun t e he => ?_) (fun t hb rest => rs_round t hb rest) ?_
  · intro vs ks s hv1 h hv2
    simp only [rsD] at h
    split at h
    · rename_i k t0 bu u t1 bt t t2
      cases hb : Nat.beq t0 27 && Nat.beq t1 27 && Nat.beq t2 27 with
      | false => rw [hb] at h; cases h
      | true =>
        rw [hb] at h
        cases h
        simp only [Bool.and_eq_true] at hb
        obtain rfl := Nat.eq_of_beq_eq_true hb.1.1
        obtain rfl := Nat.eq_of_beq_eq_true hb.1.2
        obtain rfl := Nat.eq_of_beq_eq_true hb.2
        exact ⟨rfl, fun e he => he⟩
    · cases h
  · simp only [rsS, List.mem_cons, List.not_mem_nil, or_false] at he
    obtain rfl := he; rfl
  · intro s ex outs wb cd h hc
    obtain ⟨u, t, s, k, bu, bt⟩ := s
    simp only [rsD] at h
    cases h
    have := hc _ (List.mem_cons_self)
    simp only [RSs.ok, Bool.and_eq_true, decide_eq_true_eq, beq_iff_eq] at this
    obtain ⟨⟨⟨⟨⟨⟨⟨⟨⟨⟨⟨⟨⟨h1, h2⟩, h3⟩, h4⟩, h5⟩, h6⟩, h7⟩, h8⟩, hb1⟩, hb2⟩, h9⟩, h10⟩, hk1⟩, hpos⟩ := this
    have hbq : bu = decide (u < 0) := hb1
    have hbr : bt = decide (t < 0) := hb2
    have hk : k = 1 := hk1
    have hpos' : pos = decide (0 < t) := hpos
    clear hb1 hb2 hk1 hc hpos
    subst hbq hbr hk
    have hp : (5708990770823839524233143877797980545530986496 : Int) < 2 ^ 160 := by decide +kernel
    have h4' : t ≤ 5708990770823839524233143877797980545530986496 := h4
    have h3' : 0 ≤ t := h3
    cases s with
    | some s => cases h10
    | none =>
      have R := rs_runs h1 h9 160 t none 1 h3' (by omega) h4' (by omega) (by omega) (by simp only [sv]; omega) (by simp only [sv]; omega)
      have e : (bif pos then some (rsF u 160 t 0 1) else none) = (if 0 < t then some (rsF u 160 t (sv none) 1) else none) := by
        rw [hpos']
        by_cases g : 0 < t
        · rw [decide_eq_true g, if_pos g]; rfl
        · rw [decide_eq_false g, if_neg g]; rfl
      show ∃ n, runs rsStep n _ = some (_, _, [_, _, sB (bif pos then some (rsF u 160 t 0 1) else none)])
      rw [e]; exact R
theorem lps_rs (pos : Bool) : LpsOk Try.prog numI [((76, [false, true, false, true, true, true, true, true, true, true, true, true, true]), (rsD pos).sp nmSafe)] Try.f73.ntmps (bodyOf Try.f73) := lps_cons (fun _ x hx => rsD_ok pos x hx) lps_nil
/-- A leaf without facts among its arguments, whose result is a number. -/
theorem n_leaf {c : Ctx Nm} {f : FuncId} {fn : Func} (hC : CtxOk Try.prog numI c) (hmix : Try.prog.follows .mixedOrders = true) (hf : Try.prog.funcs[f]? = some fn) (hb : fn.body.isSome = true) (hL : LpsOk Try.prog numI c.lps fn.ntmps (bodyOf fn))
    {args : List (AV Nm)} {vs : List Value} {path : List Bool} {x : AV Nm} {cd cd2 : List (Bool × Bool)} {z : Int} (h : evR c fn args path = some (x, cd)) (hn : Nat.ble args.length fn.ntmps = true) (ha : All2 (AV.R Env.none) args vs) (hc : ∀ p ∈ cd, p.1 = p.2) (hx : arOf x = some (.num z, cd2)) (hc2 : ∀ p ∈ cd2, p.1 = p.2) : NCalls f (vs.map Ar.pl) [.num z] := n_of fun w => by
  unfold evR at h
  split at h
  · rename_i r hr
    split at h
    · cases h
      have hb' : fn.body = some (bodyOf fn) := by
        unfold bodyOf
        cases hfb : fn.body with
        | none => rw [hfb] at hb; cases hb
        | some c => rfl
      refine (evF_calls hC hmix hf hb' hL hr hc (Nat.le_of_ble_eq_true hn) ha (Mem.start numI (fun _ _ => False) w (Nat.zero_le _)) free_none).mono ?_
      rintro e w' ⟨E', u, _, rfl, q2, q3⟩
      exact ⟨u, rfl, arOf_R hx hc2 q3.fv q2, q3.kept.os, q3.kept.tape, q3.kept.output, q3.kept.size, fun k hk => q3.kept.block k hk fun ⟨b, hb⟩ => own_none hb⟩
    · cases h
  · cases h
set_option maxRecDepth 100000 in
theorem atf5_  : evR (ctxLp Try.prog numI (fun _ => false) libP0 [] [((36, [false, true, false, true, true, true]), atD.sp nmSafe)]) Try.f139 [(.w (.one (.int .i64 5)))] [] = some (AV.w (AW.agg [AC.bool (decide (atV 5 < 0)), AC.fv (Nm.num (atV 5))]), (pickL [(twoB 150, true), (i64B 5, true), (decide (twoV 150 < 0) == decide (twoV 150 < 0), true), (decide (5 < 0) == decide (5 < 0), true), (szB (twoV 150), true), (szB 5, true), (decide (5 = 0), false), (at2 5 && decide (twoV 150 / 5 = twoV 150 / 5) && (none : Option Int).isNone && decide (1 = 1) && !decide (twoV 150 / 5 < 0), true)] [0, 1, 2, 3, 4, 5, 6, 7])) := by kernel_rfl
set_option maxRecDepth 100000 in
theorem atf239_  : evR (ctxLp Try.prog numI (fun _ => false) libP0 [] [((36, [false, true, false, true, true, true]), atD.sp nmSafe)]) Try.f139 [(.w (.one (.int .i64 239)))] [] = some (AV.w (AW.agg [AC.bool (decide (atV 239 < 0)), AC.fv (Nm.num (atV 239))]), (pickL [(twoB 150, true), (i64B 239, true), (decide (twoV 150 < 0) == decide (twoV 150 < 0), true), (decide (239 < 0) == decide (239 < 0), true), (szB (twoV 150), true), (szB 239, true), (decide (239 = 0), false), (at2 239 && decide (twoV 150 / 239 = twoV 150 / 239) && (none : Option Int).isNone && decide (1 = 1) && !decide (twoV 150 / 239 < 0), true)] [0, 1, 2, 3, 4, 5, 6, 7])) := by kernel_rfl
def nAtan : List Ar → Option (List Rs × List (Bool × Bool))
  | [.pl (.int .i64 n)] => some ([.num (atV n)], [(at2 n, true)])
  | _ => none
theorem nAtan_ok : (nfn nAtan).ok Try.prog numI 139 := nfn_ok fun xa rs cd h hc => by
  unfold nAtan at h
  split at h
  · rename_i n
    cases h
    have h2 : at2 n = true := hc (at2 n, true) (by simp)
    simp only [at2, Bool.or_eq_true, beq_iff_eq] at h2
    have hd : (twoV 150 / 5 < 0) = False := by rw [two_150]; simp
    rcases h2 with rfl | rfl
    · refine n_leaf (vs := [.int .i64 5]) (ctxLp_ok libP0_ok (eq_none _) (fns_nil _) (fun f fn h => by cases h)) (by kernel_rfl) Try.func139 rfl lps_at atf5_ rfl (all2_R (.cons rfl .nil)) (pickL_ok ?_ _) rfl ?_
      · repeat' (first | exact cd_nil | refine cd_cons ?_ ?_)
        all_goals first | rfl | with_reducible assumption | exact eq_self_b' _ | exact z_150 | (with_reducible exact d_150.sz (by omega)) | exact Dl.sz (k := 10) (Dl.big (by decide +kernel) (by decide +kernel)) (by omega) | decide +kernel
      · repeat' (first | exact cd_nil | refine cd_cons ?_ ?_)
        all_goals first | rfl | with_reducible assumption | exact eq_self_b' _ | exact z_150 | (with_reducible exact d_150.sz (by omega)) | exact Dl.sz (k := 10) (Dl.big (by decide +kernel) (by decide +kernel)) (by omega) | decide +kernel
    · refine n_leaf (vs := [.int .i64 239]) (ctxLp_ok libP0_ok (eq_none _) (fns_nil _) (fun f fn h => by cases h)) (by kernel_rfl) Try.func139 rfl lps_at atf239_ rfl (all2_R (.cons rfl .nil)) (pickL_ok ?_ _) rfl ?_
      · repeat' (first | exact cd_nil | refine cd_cons ?_ ?_)
        all_goals first | rfl | with_reducible assumption | exact eq_self_b' _ | exact z_150 | (with_reducible exact d_150.sz (by omega)) | exact Dl.sz (k := 10) (Dl.big (by decide +kernel) (by decide +kernel)) (by omega) | decide +kernel
      · repeat' (first | exact cd_nil | refine cd_cons ?_ ?_)
        all_goals first | rfl | with_reducible assumption | exact eq_self_b' _ | exact z_150 | (with_reducible exact d_150.sz (by omega)) | exact Dl.sz (k := 10) (Dl.big (by decide +kernel) (by decide +kernel)) (by omega) | decide +kernel
  · cases h
abbrev libP1 : List (Nat × FnSp Nm) := (139, nfn nAtan) :: libP0
theorem libP1_ok : LibOk Try.prog numI (lib1 libP1) := lib1_cons nAtan_ok Try.call139 libP0_ok
def piV : Int := 4483830866258026290414848827874327273881010752
theorem pi_at : atV 5 * 16 - atV 239 * 4 = piV := by decide +kernel
set_option maxRecDepth 100000 in
theorem pif2_  : evR (ctxOf Try.prog numI (fun _ => false) libP1) Try.f109 [] [] = some (AV.w (AW.agg [AC.bool (decide (atV 5 * 16 - atV 239 * 4 < 0)), AC.fv (Nm.num (atV 5 * 16 - atV 239 * 4))]), (pickL [(at2 5, true), (i64B 16, true), (decide (atV 5 < 0) == decide (atV 5 < 0), true), (decide (16 < 0) == decide (16 < 0), true), (szB (atV 5), true), (szB 16, true), (at2 239, true), (i64B 4, true), (decide (atV 239 < 0) == decide (atV 239 < 0), true), (decide (4 < 0) == decide (4 < 0), true), (szB (atV 239), true), (szB 4, true), (decide (atV 5 * 16 < 0) == decide (atV 5 * 16 < 0), true), (decide (atV 239 * 4 < 0) == decide (atV 239 * 4 < 0), true), (szB (atV 5 * 16), true), (szB (atV 239 * 4), true)] [0, 1, 2, 3, 4, 5, 6, 7, 8, 9, 10, 11, 12, 13, 14, 15])) := by kernel_rfl
def nPi : List Ar → Option (List Rs × List (Bool × Bool))
  | [] => some ([.num piV], [])
  | _ => none
theorem nPi_ok : (nfn nPi).ok Try.prog numI 109 := nfn_ok fun xa rs cd h hc => by
  unfold nPi at h
  split at h
  · cases h
    rw [← pi_at]
    refine n_leaf (vs := []) (ctxOf_ok libP1_ok (eq_none _)) (by kernel_rfl) Try.func109 rfl lps_nil pif2_ rfl (all2_R .nil) (pickL_ok ?_ _) rfl ?_
    · repeat' (first | exact cd_nil | refine cd_cons ?_ ?_)
      all_goals first | rfl | with_reducible assumption | exact eq_self_b' _ | exact z_150 | (with_reducible exact d_150.sz (by omega)) | exact Dl.sz (k := 10) (Dl.big (by decide +kernel) (by decide +kernel)) (by omega) | decide +kernel
    · repeat' (first | exact cd_nil | refine cd_cons ?_ ?_)
      all_goals first | rfl | with_reducible assumption | exact eq_self_b' _ | exact z_150 | (with_reducible exact d_150.sz (by omega)) | exact Dl.sz (k := 10) (Dl.big (by decide +kernel) (by decide +kernel)) (by omega) | decide +kernel
  · cases h
abbrev libP2 : List (Nat × FnSp Nm) := (109, nfn nPi) :: libP0
theorem libP2_ok : LibOk Try.prog numI (lib1 libP2) := lib1_cons nPi_ok Try.call109 libP0_ok
theorem rsT_rT (u t k : Int) : rsT u t k = rT u t ((k + 1) * (k + 2)) := by unfold rsT rT; rw [two_150]
theorem rsF_alt (u : Int) : ∀ (n : Nat) (t s k : Int), (k % 4 = 1 → rsF u n t s k = s + alt u n t k) ∧ (k % 4 = 3 → rsF u n t s k = s - alt u n t k)
  | 0, t, s, k => ⟨fun _ => by unfold rsF alt; omega, fun _ => by unfold rsF alt; omega⟩
  | n + 1, t, s, k => by
    have ih := rsF_alt u n (rsT u t k) (rsA s t k) (k + 2)
    unfold rsF alt
    rw [← rsT_rT]
    constructor
    · intro hk
      have a := ih.2 (by omega)
      have e : rsA s t k = s + t := by unfold rsA; rw [if_pos hk]
      split
      · rw [a, e]; omega
      · omega
    · intro hk
      have a := ih.1 (by omega)
      have e : rsA s t k = s - t := by unfold rsA; rw [if_neg (by omega)]
      split
      · rw [a, e]; omega
      · omega
def rsX (r : Int) : Int := piV * r / 2147483648
theorem rsF_q (r : Int) : rsF (rsX r * rsX r / twoV 150) 160 (rsX r) 0 1 = rsQ r := by
  have := (rsF_alt (rsX r * rsX r / twoV 150) 160 (rsX r) 0 1).1 (by decide)
  rw [this, two_150, Int.zero_add]; rfl
def rsRed (r : Int) : Int := if r > 1073741824 then 2147483648 - r else r
def realV (a : Int) : Int := if a % 4294967296 > 2147483648 then -rsQ (rsRed (a % 4294967296 - 2147483648)) else rsQ (rsRed (a % 4294967296))
theorem rsX_in {r : Int} (h0 : 0 ≤ r) (h1 : r ≤ 1073741824) : 0 ≤ rsX r ∧ rsX r ≤ 2300000000000000000000000000000000000000000000 ∧ (0 < r → 0 < rsX r) ∧ rsX r * rsX r / twoV 150 ≤ 4281743078117879643174857908348485409148239872 ∧ 0 ≤ rsX r * rsX r / twoV 150 := by
  have a : 0 ≤ rsX r ∧ rsX r ≤ 2300000000000000000000000000000000000000000000 ∧ (0 < r → 0 < rsX r) := by unfold rsX piV; omega
  have b : rsX r * rsX r ≤ 2300000000000000000000000000000000000000000000 * 2300000000000000000000000000000000000000000000 := Int.mul_le_mul a.2.1 a.2.1 a.1 (by omega)
  have c := Int.mul_nonneg a.1 a.1
  rw [two_150]
  generalize rsX r * rsX r = p at *
  omega
theorem rs_start {r : Int} (pos : Bool) (h0 : 0 ≤ r) (h1 : r ≤ 1073741824) (hp : pos = decide (0 < rsX r)) : ((⟨rsX r * rsX r / twoV 150, rsX r, none, 1, decide (rsX r * rsX r / twoV 150 < 0), decide (rsX r < 0)⟩ : RSs).ok && decide (rsX r * rsX r / twoV 150 ≤ 4281743078117879643174857908348485409148239872) && (none : Option Int).isNone && decide ((1 : Int) = 1) && (pos == decide (0 < rsX r))) = true := by
  have h := rsX_in h0 h1
  have ok : (⟨rsX r * rsX r / twoV 150, rsX r, none, 1, decide (rsX r * rsX r / twoV 150 < 0), decide (rsX r < 0)⟩ : RSs).ok = true := by
    have s0 : sv none = 0 := rfl
    simp only [RSs.ok, Bool.and_eq_true, decide_eq_true_eq, beq_self_eq_true, and_true]
    omega
  rw [ok, decide_eq_true h.2.2.2.1, hp]
  simp
theorem X_two (r : Int) : piV * r / twoV 31 = rsX r := by unfold rsX; rw [two_31]
set_option maxRecDepth 100000 in
theorem rsf1_111 (a : Int) : evR (ctxLp Try.prog numI (fun _ => false) libP2 [] [((76, [false, true, false, true, true, true, true, true, true, true, true, true, true]), (rsD true).sp nmSafe)]) Try.f73 [(.w (.one (.int .i64 a)))] [true, true, true] = some (AV.w (AW.agg [AC.bool (decide (-rsF (piV * IntKind.i64.wrap (2147483648 - IntKind.i64.wrap (smV (a % twoV 32) - 2147483648)) / twoV 31 * (piV * IntKind.i64.wrap (2147483648 - IntKind.i64.wrap (smV (a % twoV 32) - 2147483648)) / twoV 31) / twoV 150) 160 (piV * IntKind.i64.wrap (2147483648 - IntKind.i64.wrap (smV (a % twoV 32) - 2147483648)) / twoV 31) 0 1 < 0)), AC.fv (Nm.num (-rsF (piV * IntKind.i64.wrap (2147483648 - IntKind.i64.wrap (smV (a % twoV 32) - 2147483648)) / twoV 31 * (piV * IntKind.i64.wrap (2147483648 - IntKind.i64.wrap (smV (a % twoV 32) - 2147483648)) / twoV 31) / twoV 150) 160 (piV * IntKind.i64.wrap (2147483648 - IntKind.i64.wrap (smV (a % twoV 32) - 2147483648)) / twoV 31) 0 1))]), (pickL [(i64B a, true), (twoB 32, true), (decide (a < 0) == decide (a < 0), true), (decide (twoV 32 < 0) == decide (twoV 32 < 0), true), (szB a, true), (szB (twoV 32), true), (decide (twoV 32 = 0), false), (decide (a % twoV 32 < 0) == decide (a % twoV 32 < 0), true), (szB (a % twoV 32), true), (decide (smV (a % twoV 32) > 2147483648), true), (decide (IntKind.i64.wrap (smV (a % twoV 32) - 2147483648) > 1073741824), true), (i64B (IntKind.i64.wrap (2147483648 - IntKind.i64.wrap (smV (a % twoV 32) - 2147483648))), true), (decide (piV < 0) == decide (piV < 0), true), (decide (IntKind.i64.wrap (2147483648 - IntKind.i64.wrap (smV (a % twoV 32) - 2147483648)) < 0) == decide (IntKind.i64.wrap (2147483648 - IntKind.i64.wrap (smV (a % twoV 32) - 2147483648)) < 0), true), (szB piV, true), (szB (IntKind.i64.wrap (2147483648 - IntKind.i64.wrap (smV (a % twoV 32) - 2147483648))), true), (twoB 31, true), (decide (piV * IntKind.i64.wrap (2147483648 - IntKind.i64.wrap (smV (a % twoV 32) - 2147483648)) < 0) == decide (piV * IntKind.i64.wrap (2147483648 - IntKind.i64.wrap (smV (a % twoV 32) - 2147483648)) < 0), true), (decide (twoV 31 < 0) == decide (twoV 31 < 0), true), (szB (piV * IntKind.i64.wrap (2147483648 - IntKind.i64.wrap (smV (a % twoV 32) - 2147483648))), true), (szB (twoV 31), true), (decide (twoV 31 = 0), false), (decide (piV * IntKind.i64.wrap (2147483648 - IntKind.i64.wrap (smV (a % twoV 32) - 2147483648)) / twoV 31 < 0) == decide (piV * IntKind.i64.wrap (2147483648 - IntKind.i64.wrap (smV (a % twoV 32) - 2147483648)) / twoV 31 < 0), true), (szB (piV * IntKind.i64.wrap (2147483648 - IntKind.i64.wrap (smV (a % twoV 32) - 2147483648)) / twoV 31), true), (twoB 150, true), (decide (piV * IntKind.i64.wrap (2147483648 - IntKind.i64.wrap (smV (a % twoV 32) - 2147483648)) / twoV 31 * (piV * IntKind.i64.wrap (2147483648 - IntKind.i64.wrap (smV (a % twoV 32) - 2147483648)) / twoV 31) < 0) == decide (piV * IntKind.i64.wrap (2147483648 - IntKind.i64.wrap (smV (a % twoV 32) - 2147483648)) / twoV 31 * (piV * IntKind.i64.wrap (2147483648 - IntKind.i64.wrap (smV (a % twoV 32) - 2147483648)) / twoV 31) < 0), true), (decide (twoV 150 < 0) == decide (twoV 150 < 0), true), (szB (piV * IntKind.i64.wrap (2147483648 - IntKind.i64.wrap (smV (a % twoV 32) - 2147483648)) / twoV 31 * (piV * IntKind.i64.wrap (2147483648 - IntKind.i64.wrap (smV (a % twoV 32) - 2147483648)) / twoV 31)), true), (szB (twoV 150), true), (decide (twoV 150 = 0), false), ((⟨piV * IntKind.i64.wrap (2147483648 - IntKind.i64.wrap (smV (a % twoV 32) - 2147483648)) / twoV 31 * (piV * IntKind.i64.wrap (2147483648 - IntKind.i64.wrap (smV (a % twoV 32) - 2147483648)) / twoV 31) / twoV 150, piV * IntKind.i64.wrap (2147483648 - IntKind.i64.wrap (smV (a % twoV 32) - 2147483648)) / twoV 31, none, 1, decide (piV * IntKind.i64.wrap (2147483648 - IntKind.i64.wrap (smV (a % twoV 32) - 2147483648)) / twoV 31 * (piV * IntKind.i64.wrap (2147483648 - IntKind.i64.wrap (smV (a % twoV 32) - 2147483648)) / twoV 31) / twoV 150 < 0), decide (piV * IntKind.i64.wrap (2147483648 - IntKind.i64.wrap (smV (a % twoV 32) - 2147483648)) / twoV 31 < 0)⟩ : RSs).ok && decide (piV * IntKind.i64.wrap (2147483648 - IntKind.i64.wrap (smV (a % twoV 32) - 2147483648)) / twoV 31 * (piV * IntKind.i64.wrap (2147483648 - IntKind.i64.wrap (smV (a % twoV 32) - 2147483648)) / twoV 31) / twoV 150 ≤ 4281743078117879643174857908348485409148239872) && (none : Option Int).isNone && decide (1 = 1) && true == decide (0 < piV * IntKind.i64.wrap (2147483648 - IntKind.i64.wrap (smV (a % twoV 32) - 2147483648)) / twoV 31), true), (decide (rsF (piV * IntKind.i64.wrap (2147483648 - IntKind.i64.wrap (smV (a % twoV 32) - 2147483648)) / twoV 31 * (piV * IntKind.i64.wrap (2147483648 - IntKind.i64.wrap (smV (a % twoV 32) - 2147483648)) / twoV 31) / twoV 150) 160 (piV * IntKind.i64.wrap (2147483648 - IntKind.i64.wrap (smV (a % twoV 32) - 2147483648)) / twoV 31) 0 1 < 0) == decide (rsF (piV * IntKind.i64.wrap (2147483648 - IntKind.i64.wrap (smV (a % twoV 32) - 2147483648)) / twoV 31 * (piV * IntKind.i64.wrap (2147483648 - IntKind.i64.wrap (smV (a % twoV 32) - 2147483648)) / twoV 31) / twoV 150) 160 (piV * IntKind.i64.wrap (2147483648 - IntKind.i64.wrap (smV (a % twoV 32) - 2147483648)) / twoV 31) 0 1 < 0), true), (szB (rsF (piV * IntKind.i64.wrap (2147483648 - IntKind.i64.wrap (smV (a % twoV 32) - 2147483648)) / twoV 31 * (piV * IntKind.i64.wrap (2147483648 - IntKind.i64.wrap (smV (a % twoV 32) - 2147483648)) / twoV 31) / twoV 150) 160 (piV * IntKind.i64.wrap (2147483648 - IntKind.i64.wrap (smV (a % twoV 32) - 2147483648)) / twoV 31) 0 1), true)] [0, 1, 2, 3, 4, 5, 6, 7, 8, 9, 10, 11, 12, 13, 14, 15, 16, 17, 18, 19, 20, 21, 22, 22, 23, 23, 24, 25, 26, 27, 28, 29, 30, 9, 31, 32])) := by kernel_rfl
set_option maxRecDepth 100000 in
theorem rsf1_101 (a : Int) : evR (ctxLp Try.prog numI (fun _ => false) libP2 [] [((76, [false, true, false, true, true, true, true, true, true, true, true, true, true]), (rsD true).sp nmSafe)]) Try.f73 [(.w (.one (.int .i64 a)))] [true, false, true] = some (AV.w (AW.agg [AC.bool (decide (-rsF (piV * IntKind.i64.wrap (smV (a % twoV 32) - 2147483648) / twoV 31 * (piV * IntKind.i64.wrap (smV (a % twoV 32) - 2147483648) / twoV 31) / twoV 150) 160 (piV * IntKind.i64.wrap (smV (a % twoV 32) - 2147483648) / twoV 31) 0 1 < 0)), AC.fv (Nm.num (-rsF (piV * IntKind.i64.wrap (smV (a % twoV 32) - 2147483648) / twoV 31 * (piV * IntKind.i64.wrap (smV (a % twoV 32) - 2147483648) / twoV 31) / twoV 150) 160 (piV * IntKind.i64.wrap (smV (a % twoV 32) - 2147483648) / twoV 31) 0 1))]), (pickL [(i64B a, true), (twoB 32, true), (decide (a < 0) == decide (a < 0), true), (decide (twoV 32 < 0) == decide (twoV 32 < 0), true), (szB a, true), (szB (twoV 32), true), (decide (twoV 32 = 0), false), (decide (a % twoV 32 < 0) == decide (a % twoV 32 < 0), true), (szB (a % twoV 32), true), (decide (smV (a % twoV 32) > 2147483648), true), (decide (IntKind.i64.wrap (smV (a % twoV 32) - 2147483648) > 1073741824), false), (i64B (IntKind.i64.wrap (smV (a % twoV 32) - 2147483648)), true), (decide (piV < 0) == decide (piV < 0), true), (decide (IntKind.i64.wrap (smV (a % twoV 32) - 2147483648) < 0) == decide (IntKind.i64.wrap (smV (a % twoV 32) - 2147483648) < 0), true), (szB piV, true), (szB (IntKind.i64.wrap (smV (a % twoV 32) - 2147483648)), true), (twoB 31, true), (decide (piV * IntKind.i64.wrap (smV (a % twoV 32) - 2147483648) < 0) == decide (piV * IntKind.i64.wrap (smV (a % twoV 32) - 2147483648) < 0), true), (decide (twoV 31 < 0) == decide (twoV 31 < 0), true), (szB (piV * IntKind.i64.wrap (smV (a % twoV 32) - 2147483648)), true), (szB (twoV 31), true), (decide (twoV 31 = 0), false), (decide (piV * IntKind.i64.wrap (smV (a % twoV 32) - 2147483648) / twoV 31 < 0) == decide (piV * IntKind.i64.wrap (smV (a % twoV 32) - 2147483648) / twoV 31 < 0), true), (szB (piV * IntKind.i64.wrap (smV (a % twoV 32) - 2147483648) / twoV 31), true), (twoB 150, true), (decide (piV * IntKind.i64.wrap (smV (a % twoV 32) - 2147483648) / twoV 31 * (piV * IntKind.i64.wrap (smV (a % twoV 32) - 2147483648) / twoV 31) < 0) == decide (piV * IntKind.i64.wrap (smV (a % twoV 32) - 2147483648) / twoV 31 * (piV * IntKind.i64.wrap (smV (a % twoV 32) - 2147483648) / twoV 31) < 0), true), (decide (twoV 150 < 0) == decide (twoV 150 < 0), true), (szB (piV * IntKind.i64.wrap (smV (a % twoV 32) - 2147483648) / twoV 31 * (piV * IntKind.i64.wrap (smV (a % twoV 32) - 2147483648) / twoV 31)), true), (szB (twoV 150), true), (decide (twoV 150 = 0), false), ((⟨piV * IntKind.i64.wrap (smV (a % twoV 32) - 2147483648) / twoV 31 * (piV * IntKind.i64.wrap (smV (a % twoV 32) - 2147483648) / twoV 31) / twoV 150, piV * IntKind.i64.wrap (smV (a % twoV 32) - 2147483648) / twoV 31, none, 1, decide (piV * IntKind.i64.wrap (smV (a % twoV 32) - 2147483648) / twoV 31 * (piV * IntKind.i64.wrap (smV (a % twoV 32) - 2147483648) / twoV 31) / twoV 150 < 0), decide (piV * IntKind.i64.wrap (smV (a % twoV 32) - 2147483648) / twoV 31 < 0)⟩ : RSs).ok && decide (piV * IntKind.i64.wrap (smV (a % twoV 32) - 2147483648) / twoV 31 * (piV * IntKind.i64.wrap (smV (a % twoV 32) - 2147483648) / twoV 31) / twoV 150 ≤ 4281743078117879643174857908348485409148239872) && (none : Option Int).isNone && decide (1 = 1) && true == decide (0 < piV * IntKind.i64.wrap (smV (a % twoV 32) - 2147483648) / twoV 31), true), (decide (rsF (piV * IntKind.i64.wrap (smV (a % twoV 32) - 2147483648) / twoV 31 * (piV * IntKind.i64.wrap (smV (a % twoV 32) - 2147483648) / twoV 31) / twoV 150) 160 (piV * IntKind.i64.wrap (smV (a % twoV 32) - 2147483648) / twoV 31) 0 1 < 0) == decide (rsF (piV * IntKind.i64.wrap (smV (a % twoV 32) - 2147483648) / twoV 31 * (piV * IntKind.i64.wrap (smV (a % twoV 32) - 2147483648) / twoV 31) / twoV 150) 160 (piV * IntKind.i64.wrap (smV (a % twoV 32) - 2147483648) / twoV 31) 0 1 < 0), true), (szB (rsF (piV * IntKind.i64.wrap (smV (a % twoV 32) - 2147483648) / twoV 31 * (piV * IntKind.i64.wrap (smV (a % twoV 32) - 2147483648) / twoV 31) / twoV 150) 160 (piV * IntKind.i64.wrap (smV (a % twoV 32) - 2147483648) / twoV 31) 0 1), true)] [0, 1, 2, 3, 4, 5, 6, 7, 8, 9, 10, 11, 12, 13, 14, 15, 16, 17, 18, 19, 20, 21, 22, 22, 23, 23, 24, 25, 26, 27, 28, 29, 30, 9, 31, 32])) := by kernel_rfl
set_option maxRecDepth 100000 in
theorem rsf1_010 (a : Int) : evR (ctxLp Try.prog numI (fun _ => false) libP2 [] [((76, [false, true, false, true, true, true, true, true, true, true, true, true, true]), (rsD true).sp nmSafe)]) Try.f73 [(.w (.one (.int .i64 a)))] [false, true, false] = some (AV.w (AW.agg [AC.bool (decide (rsF (piV * IntKind.i64.wrap (2147483648 - smV (a % twoV 32)) / twoV 31 * (piV * IntKind.i64.wrap (2147483648 - smV (a % twoV 32)) / twoV 31) / twoV 150) 160 (piV * IntKind.i64.wrap (2147483648 - smV (a % twoV 32)) / twoV 31) 0 1 < 0)), AC.fv (Nm.num (rsF (piV * IntKind.i64.wrap (2147483648 - smV (a % twoV 32)) / twoV 31 * (piV * IntKind.i64.wrap (2147483648 - smV (a % twoV 32)) / twoV 31) / twoV 150) 160 (piV * IntKind.i64.wrap (2147483648 - smV (a % twoV 32)) / twoV 31) 0 1))]), (pickL [(i64B a, true), (twoB 32, true), (decide (a < 0) == decide (a < 0), true), (decide (twoV 32 < 0) == decide (twoV 32 < 0), true), (szB a, true), (szB (twoV 32), true), (decide (twoV 32 = 0), false), (decide (a % twoV 32 < 0) == decide (a % twoV 32 < 0), true), (szB (a % twoV 32), true), (decide (smV (a % twoV 32) > 2147483648), false), (decide (smV (a % twoV 32) > 1073741824), true), (i64B (IntKind.i64.wrap (2147483648 - smV (a % twoV 32))), true), (decide (piV < 0) == decide (piV < 0), true), (decide (IntKind.i64.wrap (2147483648 - smV (a % twoV 32)) < 0) == decide (IntKind.i64.wrap (2147483648 - smV (a % twoV 32)) < 0), true), (szB piV, true), (szB (IntKind.i64.wrap (2147483648 - smV (a % twoV 32))), true), (twoB 31, true), (decide (piV * IntKind.i64.wrap (2147483648 - smV (a % twoV 32)) < 0) == decide (piV * IntKind.i64.wrap (2147483648 - smV (a % twoV 32)) < 0), true), (decide (twoV 31 < 0) == decide (twoV 31 < 0), true), (szB (piV * IntKind.i64.wrap (2147483648 - smV (a % twoV 32))), true), (szB (twoV 31), true), (decide (twoV 31 = 0), false), (decide (piV * IntKind.i64.wrap (2147483648 - smV (a % twoV 32)) / twoV 31 < 0) == decide (piV * IntKind.i64.wrap (2147483648 - smV (a % twoV 32)) / twoV 31 < 0), true), (szB (piV * IntKind.i64.wrap (2147483648 - smV (a % twoV 32)) / twoV 31), true), (twoB 150, true), (decide (piV * IntKind.i64.wrap (2147483648 - smV (a % twoV 32)) / twoV 31 * (piV * IntKind.i64.wrap (2147483648 - smV (a % twoV 32)) / twoV 31) < 0) == decide (piV * IntKind.i64.wrap (2147483648 - smV (a % twoV 32)) / twoV 31 * (piV * IntKind.i64.wrap (2147483648 - smV (a % twoV 32)) / twoV 31) < 0), true), (decide (twoV 150 < 0) == decide (twoV 150 < 0), true), (szB (piV * IntKind.i64.wrap (2147483648 - smV (a % twoV 32)) / twoV 31 * (piV * IntKind.i64.wrap (2147483648 - smV (a % twoV 32)) / twoV 31)), true), (szB (twoV 150), true), (decide (twoV 150 = 0), false), ((⟨piV * IntKind.i64.wrap (2147483648 - smV (a % twoV 32)) / twoV 31 * (piV * IntKind.i64.wrap (2147483648 - smV (a % twoV 32)) / twoV 31) / twoV 150, piV * IntKind.i64.wrap (2147483648 - smV (a % twoV 32)) / twoV 31, none, 1, decide (piV * IntKind.i64.wrap (2147483648 - smV (a % twoV 32)) / twoV 31 * (piV * IntKind.i64.wrap (2147483648 - smV (a % twoV 32)) / twoV 31) / twoV 150 < 0), decide (piV * IntKind.i64.wrap (2147483648 - smV (a % twoV 32)) / twoV 31 < 0)⟩ : RSs).ok && decide (piV * IntKind.i64.wrap (2147483648 - smV (a % twoV 32)) / twoV 31 * (piV * IntKind.i64.wrap (2147483648 - smV (a % twoV 32)) / twoV 31) / twoV 150 ≤ 4281743078117879643174857908348485409148239872) && (none : Option Int).isNone && decide (1 = 1) && true == decide (0 < piV * IntKind.i64.wrap (2147483648 - smV (a % twoV 32)) / twoV 31), true)] [0, 1, 2, 3, 4, 5, 6, 7, 8, 9, 10, 11, 12, 13, 14, 15, 16, 17, 18, 19, 20, 21, 22, 22, 23, 23, 24, 25, 26, 27, 28, 29, 30, 9])) := by kernel_rfl
set_option maxRecDepth 100000 in
theorem rsf1_000 (a : Int) : evR (ctxLp Try.prog numI (fun _ => false) libP2 [] [((76, [false, true, false, true, true, true, true, true, true, true, true, true, true]), (rsD true).sp nmSafe)]) Try.f73 [(.w (.one (.int .i64 a)))] [false, false, false] = some (AV.w (AW.agg [AC.bool (decide (rsF (piV * smV (a % twoV 32) / twoV 31 * (piV * smV (a % twoV 32) / twoV 31) / twoV 150) 160 (piV * smV (a % twoV 32) / twoV 31) 0 1 < 0)), AC.fv (Nm.num (rsF (piV * smV (a % twoV 32) / twoV 31 * (piV * smV (a % twoV 32) / twoV 31) / twoV 150) 160 (piV * smV (a % twoV 32) / twoV 31) 0 1))]), (pickL [(i64B a, true), (twoB 32, true), (decide (a < 0) == decide (a < 0), true), (decide (twoV 32 < 0) == decide (twoV 32 < 0), true), (szB a, true), (szB (twoV 32), true), (decide (twoV 32 = 0), false), (decide (a % twoV 32 < 0) == decide (a % twoV 32 < 0), true), (szB (a % twoV 32), true), (decide (smV (a % twoV 32) > 2147483648), false), (decide (smV (a % twoV 32) > 1073741824), false), (i64B (smV (a % twoV 32)), true), (decide (piV < 0) == decide (piV < 0), true), (decide (smV (a % twoV 32) < 0) == decide (smV (a % twoV 32) < 0), true), (szB piV, true), (szB (smV (a % twoV 32)), true), (twoB 31, true), (decide (piV * smV (a % twoV 32) < 0) == decide (piV * smV (a % twoV 32) < 0), true), (decide (twoV 31 < 0) == decide (twoV 31 < 0), true), (szB (piV * smV (a % twoV 32)), true), (szB (twoV 31), true), (decide (twoV 31 = 0), false), (decide (piV * smV (a % twoV 32) / twoV 31 < 0) == decide (piV * smV (a % twoV 32) / twoV 31 < 0), true), (szB (piV * smV (a % twoV 32) / twoV 31), true), (twoB 150, true), (decide (piV * smV (a % twoV 32) / twoV 31 * (piV * smV (a % twoV 32) / twoV 31) < 0) == decide (piV * smV (a % twoV 32) / twoV 31 * (piV * smV (a % twoV 32) / twoV 31) < 0), true), (decide (twoV 150 < 0) == decide (twoV 150 < 0), true), (szB (piV * smV (a % twoV 32) / twoV 31 * (piV * smV (a % twoV 32) / twoV 31)), true), (szB (twoV 150), true), (decide (twoV 150 = 0), false), ((⟨piV * smV (a % twoV 32) / twoV 31 * (piV * smV (a % twoV 32) / twoV 31) / twoV 150, piV * smV (a % twoV 32) / twoV 31, none, 1, decide (piV * smV (a % twoV 32) / twoV 31 * (piV * smV (a % twoV 32) / twoV 31) / twoV 150 < 0), decide (piV * smV (a % twoV 32) / twoV 31 < 0)⟩ : RSs).ok && decide (piV * smV (a % twoV 32) / twoV 31 * (piV * smV (a % twoV 32) / twoV 31) / twoV 150 ≤ 4281743078117879643174857908348485409148239872) && (none : Option Int).isNone && decide (1 = 1) && true == decide (0 < piV * smV (a % twoV 32) / twoV 31), true)] [0, 1, 2, 3, 4, 5, 6, 7, 8, 9, 10, 11, 12, 13, 14, 15, 16, 17, 18, 19, 20, 21, 22, 22, 23, 23, 24, 25, 26, 27, 28, 29, 30, 9])) := by kernel_rfl
set_option maxRecDepth 100000 in
theorem rsf0_010 (a : Int) : evR (ctxLp Try.prog numI (fun _ => false) libP2 [] [((76, [false, true, false, true, true, true, true, true, true, true, true, true, true]), (rsD false).sp nmSafe)]) Try.f73 [(.w (.one (.int .i64 a)))] [false, true, false] = some (AV.w (AW.agg [AC.yes false, AC.lit (Value.slice none 0 0)]), (pickL [(i64B a, true), (twoB 32, true), (decide (a < 0) == decide (a < 0), true), (decide (twoV 32 < 0) == decide (twoV 32 < 0), true), (szB a, true), (szB (twoV 32), true), (decide (twoV 32 = 0), false), (decide (a % twoV 32 < 0) == decide (a % twoV 32 < 0), true), (szB (a % twoV 32), true), (decide (smV (a % twoV 32) > 2147483648), false), (decide (smV (a % twoV 32) > 1073741824), true), (i64B (IntKind.i64.wrap (2147483648 - smV (a % twoV 32))), true), (decide (piV < 0) == decide (piV < 0), true), (decide (IntKind.i64.wrap (2147483648 - smV (a % twoV 32)) < 0) == decide (IntKind.i64.wrap (2147483648 - smV (a % twoV 32)) < 0), true), (szB piV, true), (szB (IntKind.i64.wrap (2147483648 - smV (a % twoV 32))), true), (twoB 31, true), (decide (piV * IntKind.i64.wrap (2147483648 - smV (a % twoV 32)) < 0) == decide (piV * IntKind.i64.wrap (2147483648 - smV (a % twoV 32)) < 0), true), (decide (twoV 31 < 0) == decide (twoV 31 < 0), true), (szB (piV * IntKind.i64.wrap (2147483648 - smV (a % twoV 32))), true), (szB (twoV 31), true), (decide (twoV 31 = 0), false), (decide (piV * IntKind.i64.wrap (2147483648 - smV (a % twoV 32)) / twoV 31 < 0) == decide (piV * IntKind.i64.wrap (2147483648 - smV (a % twoV 32)) / twoV 31 < 0), true), (szB (piV * IntKind.i64.wrap (2147483648 - smV (a % twoV 32)) / twoV 31), true), (twoB 150, true), (decide (piV * IntKind.i64.wrap (2147483648 - smV (a % twoV 32)) / twoV 31 * (piV * IntKind.i64.wrap (2147483648 - smV (a % twoV 32)) / twoV 31) < 0) == decide (piV * IntKind.i64.wrap (2147483648 - smV (a % twoV 32)) / twoV 31 * (piV * IntKind.i64.wrap (2147483648 - smV (a % twoV 32)) / twoV 31) < 0), true), (decide (twoV 150 < 0) == decide (twoV 150 < 0), true), (szB (piV * IntKind.i64.wrap (2147483648 - smV (a % twoV 32)) / twoV 31 * (piV * IntKind.i64.wrap (2147483648 - smV (a % twoV 32)) / twoV 31)), true), (szB (twoV 150), true), (decide (twoV 150 = 0), false), ((⟨piV * IntKind.i64.wrap (2147483648 - smV (a % twoV 32)) / twoV 31 * (piV * IntKind.i64.wrap (2147483648 - smV (a % twoV 32)) / twoV 31) / twoV 150, piV * IntKind.i64.wrap (2147483648 - smV (a % twoV 32)) / twoV 31, none, 1, decide (piV * IntKind.i64.wrap (2147483648 - smV (a % twoV 32)) / twoV 31 * (piV * IntKind.i64.wrap (2147483648 - smV (a % twoV 32)) / twoV 31) / twoV 150 < 0), decide (piV * IntKind.i64.wrap (2147483648 - smV (a % twoV 32)) / twoV 31 < 0)⟩ : RSs).ok && decide (piV * IntKind.i64.wrap (2147483648 - smV (a % twoV 32)) / twoV 31 * (piV * IntKind.i64.wrap (2147483648 - smV (a % twoV 32)) / twoV 31) / twoV 150 ≤ 4281743078117879643174857908348485409148239872) && (none : Option Int).isNone && decide (1 = 1) && false == decide (0 < piV * IntKind.i64.wrap (2147483648 - smV (a % twoV 32)) / twoV 31), true)] [0, 1, 2, 3, 4, 5, 6, 7, 8, 9, 10, 11, 12, 13, 14, 15, 16, 17, 18, 19, 20, 21, 22, 22, 23, 23, 24, 25, 26, 27, 28, 29, 30, 9])) := by kernel_rfl
set_option maxRecDepth 100000 in
theorem rsf0_000 (a : Int) : evR (ctxLp Try.prog numI (fun _ => false) libP2 [] [((76, [false, true, false, true, true, true, true, true, true, true, true, true, true]), (rsD false).sp nmSafe)]) Try.f73 [(.w (.one (.int .i64 a)))] [false, false, false] = some (AV.w (AW.agg [AC.yes false, AC.lit (Value.slice none 0 0)]), (pickL [(i64B a, true), (twoB 32, true), (decide (a < 0) == decide (a < 0), true), (decide (twoV 32 < 0) == decide (twoV 32 < 0), true), (szB a, true), (szB (twoV 32), true), (decide (twoV 32 = 0), false), (decide (a % twoV 32 < 0) == decide (a % twoV 32 < 0), true), (szB (a % twoV 32), true), (decide (smV (a % twoV 32) > 2147483648), false), (decide (smV (a % twoV 32) > 1073741824), false), (i64B (smV (a % twoV 32)), true), (decide (piV < 0) == decide (piV < 0), true), (decide (smV (a % twoV 32) < 0) == decide (smV (a % twoV 32) < 0), true), (szB piV, true), (szB (smV (a % twoV 32)), true), (twoB 31, true), (decide (piV * smV (a % twoV 32) < 0) == decide (piV * smV (a % twoV 32) < 0), true), (decide (twoV 31 < 0) == decide (twoV 31 < 0), true), (szB (piV * smV (a % twoV 32)), true), (szB (twoV 31), true), (decide (twoV 31 = 0), false), (decide (piV * smV (a % twoV 32) / twoV 31 < 0) == decide (piV * smV (a % twoV 32) / twoV 31 < 0), true), (szB (piV * smV (a % twoV 32) / twoV 31), true), (twoB 150, true), (decide (piV * smV (a % twoV 32) / twoV 31 * (piV * smV (a % twoV 32) / twoV 31) < 0) == decide (piV * smV (a % twoV 32) / twoV 31 * (piV * smV (a % twoV 32) / twoV 31) < 0), true), (decide (twoV 150 < 0) == decide (twoV 150 < 0), true), (szB (piV * smV (a % twoV 32) / twoV 31 * (piV * smV (a % twoV 32) / twoV 31)), true), (szB (twoV 150), true), (decide (twoV 150 = 0), false), ((⟨piV * smV (a % twoV 32) / twoV 31 * (piV * smV (a % twoV 32) / twoV 31) / twoV 150, piV * smV (a % twoV 32) / twoV 31, none, 1, decide (piV * smV (a % twoV 32) / twoV 31 * (piV * smV (a % twoV 32) / twoV 31) / twoV 150 < 0), decide (piV * smV (a % twoV 32) / twoV 31 < 0)⟩ : RSs).ok && decide (piV * smV (a % twoV 32) / twoV 31 * (piV * smV (a % twoV 32) / twoV 31) / twoV 150 ≤ 4281743078117879643174857908348485409148239872) && (none : Option Int).isNone && decide (1 = 1) && false == decide (0 < piV * smV (a % twoV 32) / twoV 31), true)] [0, 1, 2, 3, 4, 5, 6, 7, 8, 9, 10, 11, 12, 13, 14, 15, 16, 17, 18, 19, 20, 21, 22, 22, 23, 23, 24, 25, 26, 27, 28, 29, 30, 9])) := by kernel_rfl
theorem rsQ_0 : rsQ 0 = 0 := by decide +kernel
set_option maxRecDepth 100000 in
set_option maxHeartbeats 4000000 in
theorem real_nc (a : Int) (ha : i64B a = true) : NCalls 73 [.pl (.int .i64 a)] [.num (realV a)] := by
  have da := Dl.i64 ha
  have d32 := d_32
  have d150 := d_150
  have z32 := z_32
  have z150 := z_150
  have z31 : decide (twoV 31 = 0) = false := by decide +kernel
  have d31 : Dl 4 (twoV 31) := by rw [two_31]; exact Dl.lit (by omega) (by omega)
  have dpi : Dl 10 piV := Dl.big (by decide +kernel) (by decide +kernel)
  have d0 : Dl 4 0 := Dl.lit (by omega) (by omega)
  have dm : Dl 4 (a % twoV 32) := by rw [two_32]; exact Dl.lit (by omega) (by omega)
  by_cases c1 : a % 4294967296 > 2147483648
  · have k1 : decide (a % 4294967296 > 2147483648) = true := decide_eq_true c1
    by_cases c2 : a % 4294967296 - 2147483648 > 1073741824
    · have k2 : decide (a % 4294967296 - 2147483648 > 1073741824) = true := decide_eq_true c2
      have L := rsf1_111 a
      rw [sm32] at L
      rw [i64w (x := a % 4294967296 - 2147483648) (by omega) (by omega)] at L
      rw [i64w (x := 2147483648 - (a % 4294967296 - 2147483648)) (by omega) (by omega)] at L
      rw [X_two] at L
      have hX := rsX_in (r := 2147483648 - (a % 4294967296 - 2147483648)) (by omega) (by omega)
      have hS := rs_start (r := 2147483648 - (a % 4294967296 - 2147483648)) true (by omega) (by omega) (decide_eq_true (hX.2.2.1 (by omega))).symm
      rw [rsF_q] at L
      have dr : Dl 4 (2147483648 - (a % 4294967296 - 2147483648)) := Dl.lit (by omega) (by omega)
      have ir : i64B (2147483648 - (a % 4294967296 - 2147483648)) = true := i64B_iff.2 (by omega)
      have dX : Dl 10 (rsX (2147483648 - (a % 4294967296 - 2147483648))) := Dl.big (by omega) (by omega)
      have dd : Dl 4 (a % 4294967296) := Dl.lit (by omega) (by omega)
      have hV : realV a = -rsQ (2147483648 - (a % 4294967296 - 2147483648)) := by unfold realV; rw [if_pos c1]; unfold rsRed; rw [if_pos c2]
      have hQ : szB (rsQ (2147483648 - (a % 4294967296 - 2147483648))) = true := by have := alt_in hX.2.2.2.2 hX.2.2.2.1 160 (rsX (2147483648 - (a % 4294967296 - 2147483648))) 1 hX.1 (by omega); rw [← rsF_q, (rsF_alt _ 160 _ 0 1).1 (by decide)]; exact Dl.sz (k := 10) (Dl.big (by omega) (by omega)) (by omega)
      rw [hV]
      refine n_leaf (vs := [.int .i64 a]) (ctxLp_ok libP2_ok (eq_none _) (fns_nil _) (fun f fn h => by cases h)) (by kernel_rfl) Try.func73 rfl (lps_rs true) L rfl (all2_R (.cons rfl .nil)) (pickL_ok ?_ _) rfl ?_
      · repeat' (first | exact cd_nil | refine cd_cons ?_ ?_)
        all_goals first | rfl | with_reducible assumption | exact eq_self_b' _ | exact hS | (with_reducible apply Dl.sz; (repeat' (first | with_reducible assumption | with_reducible apply Dl.mul | with_reducible apply Dl.div)); omega)
      · repeat' (first | exact cd_nil | refine cd_cons ?_ ?_)
        all_goals first | rfl | with_reducible assumption | exact eq_self_b' _ | exact hS | (with_reducible apply Dl.sz; (repeat' (first | with_reducible assumption | with_reducible apply Dl.mul | with_reducible apply Dl.div)); omega)
    · have k2 : decide (a % 4294967296 - 2147483648 > 1073741824) = false := decide_eq_false c2
      have L := rsf1_101 a
      rw [sm32] at L
      rw [i64w (x := a % 4294967296 - 2147483648) (by omega) (by omega)] at L
      rw [X_two] at L
      have hX := rsX_in (r := a % 4294967296 - 2147483648) (by omega) (by omega)
      have hS := rs_start (r := a % 4294967296 - 2147483648) true (by omega) (by omega) (decide_eq_true (hX.2.2.1 (by omega))).symm
      rw [rsF_q] at L
      have dr : Dl 4 (a % 4294967296 - 2147483648) := Dl.lit (by omega) (by omega)
      have ir : i64B (a % 4294967296 - 2147483648) = true := i64B_iff.2 (by omega)
      have dX : Dl 10 (rsX (a % 4294967296 - 2147483648)) := Dl.big (by omega) (by omega)
      have dd : Dl 4 (a % 4294967296) := Dl.lit (by omega) (by omega)
      have hV : realV a = -rsQ (a % 4294967296 - 2147483648) := by unfold realV; rw [if_pos c1]; unfold rsRed; rw [if_neg c2]
      have hQ : szB (rsQ (a % 4294967296 - 2147483648)) = true := by have := alt_in hX.2.2.2.2 hX.2.2.2.1 160 (rsX (a % 4294967296 - 2147483648)) 1 hX.1 (by omega); rw [← rsF_q, (rsF_alt _ 160 _ 0 1).1 (by decide)]; exact Dl.sz (k := 10) (Dl.big (by omega) (by omega)) (by omega)
      rw [hV]
      refine n_leaf (vs := [.int .i64 a]) (ctxLp_ok libP2_ok (eq_none _) (fns_nil _) (fun f fn h => by cases h)) (by kernel_rfl) Try.func73 rfl (lps_rs true) L rfl (all2_R (.cons rfl .nil)) (pickL_ok ?_ _) rfl ?_
      · repeat' (first | exact cd_nil | refine cd_cons ?_ ?_)
        all_goals first | rfl | with_reducible assumption | exact eq_self_b' _ | exact hS | (with_reducible apply Dl.sz; (repeat' (first | with_reducible assumption | with_reducible apply Dl.mul | with_reducible apply Dl.div)); omega)
      · repeat' (first | exact cd_nil | refine cd_cons ?_ ?_)
        all_goals first | rfl | with_reducible assumption | exact eq_self_b' _ | exact hS | (with_reducible apply Dl.sz; (repeat' (first | with_reducible assumption | with_reducible apply Dl.mul | with_reducible apply Dl.div)); omega)
  · have k1 : decide (a % 4294967296 > 2147483648) = false := decide_eq_false c1
    by_cases c2 : a % 4294967296 > 1073741824
    · have k2 : decide (a % 4294967296 > 1073741824) = true := decide_eq_true c2
      by_cases c3 : 0 < 2147483648 - a % 4294967296
      · skip
        have L := rsf1_010 a
        rw [sm32] at L
        rw [i64w (x := 2147483648 - a % 4294967296) (by omega) (by omega)] at L
        rw [X_two] at L
        have hX := rsX_in (r := 2147483648 - a % 4294967296) (by omega) (by omega)
        have hS := rs_start (r := 2147483648 - a % 4294967296) true (by omega) (by omega) (decide_eq_true (hX.2.2.1 (by omega))).symm
        rw [rsF_q] at L
        have dr : Dl 4 (2147483648 - a % 4294967296) := Dl.lit (by omega) (by omega)
        have ir : i64B (2147483648 - a % 4294967296) = true := i64B_iff.2 (by omega)
        have dX : Dl 10 (rsX (2147483648 - a % 4294967296)) := Dl.big (by omega) (by omega)
        have dd : Dl 4 (a % 4294967296) := Dl.lit (by omega) (by omega)
        have hV : realV a = rsQ (2147483648 - a % 4294967296) := by unfold realV; rw [if_neg c1]; unfold rsRed; rw [if_pos c2]
        have hQ : szB (rsQ (2147483648 - a % 4294967296)) = true := by have := alt_in hX.2.2.2.2 hX.2.2.2.1 160 (rsX (2147483648 - a % 4294967296)) 1 hX.1 (by omega); rw [← rsF_q, (rsF_alt _ 160 _ 0 1).1 (by decide)]; exact Dl.sz (k := 10) (Dl.big (by omega) (by omega)) (by omega)
        rw [hV]
        refine n_leaf (vs := [.int .i64 a]) (ctxLp_ok libP2_ok (eq_none _) (fns_nil _) (fun f fn h => by cases h)) (by kernel_rfl) Try.func73 rfl (lps_rs true) L rfl (all2_R (.cons rfl .nil)) (pickL_ok ?_ _) rfl ?_
        · repeat' (first | exact cd_nil | refine cd_cons ?_ ?_)
          all_goals first | rfl | with_reducible assumption | exact eq_self_b' _ | exact hS | (with_reducible apply Dl.sz; (repeat' (first | with_reducible assumption | with_reducible apply Dl.mul | with_reducible apply Dl.div)); omega)
        · repeat' (first | exact cd_nil | refine cd_cons ?_ ?_)
          all_goals first | rfl | with_reducible assumption | exact eq_self_b' _ | exact hS | (with_reducible apply Dl.sz; (repeat' (first | with_reducible assumption | with_reducible apply Dl.mul | with_reducible apply Dl.div)); omega)
      · skip
        have L := rsf0_010 a
        rw [sm32] at L
        rw [i64w (x := 2147483648 - a % 4294967296) (by omega) (by omega)] at L
        rw [X_two] at L
        have hX := rsX_in (r := 2147483648 - a % 4294967296) (by omega) (by omega)
        have hS := rs_start (r := 2147483648 - a % 4294967296) false (by omega) (by omega) (decide_eq_false (by rw [show 2147483648 - a % 4294967296 = 0 by omega]; decide +kernel)).symm
        have dr : Dl 4 (2147483648 - a % 4294967296) := Dl.lit (by omega) (by omega)
        have ir : i64B (2147483648 - a % 4294967296) = true := i64B_iff.2 (by omega)
        have dX : Dl 10 (rsX (2147483648 - a % 4294967296)) := Dl.big (by omega) (by omega)
        have dd : Dl 4 (a % 4294967296) := Dl.lit (by omega) (by omega)
        have hV : realV a = 0 := by unfold realV; rw [if_neg c1]; unfold rsRed; rw [if_pos c2, show 2147483648 - a % 4294967296 = 0 by omega]; exact rsQ_0
        rw [hV]
        refine n_leaf (vs := [.int .i64 a]) (ctxLp_ok libP2_ok (eq_none _) (fns_nil _) (fun f fn h => by cases h)) (by kernel_rfl) Try.func73 rfl (lps_rs false) L rfl (all2_R (.cons rfl .nil)) (pickL_ok ?_ _) rfl ?_
        · repeat' (first | exact cd_nil | refine cd_cons ?_ ?_)
          all_goals first | rfl | with_reducible assumption | exact eq_self_b' _ | exact hS | (with_reducible apply Dl.sz; (repeat' (first | with_reducible assumption | with_reducible apply Dl.mul | with_reducible apply Dl.div)); omega)
        · repeat' (first | exact cd_nil | refine cd_cons ?_ ?_)
          all_goals first | rfl | with_reducible assumption | exact eq_self_b' _ | exact hS | (with_reducible apply Dl.sz; (repeat' (first | with_reducible assumption | with_reducible apply Dl.mul | with_reducible apply Dl.div)); omega)
    · have k2 : decide (a % 4294967296 > 1073741824) = false := decide_eq_false c2
      by_cases c3 : 0 < a % 4294967296
      · skip
        have L := rsf1_000 a
        rw [sm32] at L
        rw [X_two] at L
        have hX := rsX_in (r := a % 4294967296) (by omega) (by omega)
        have hS := rs_start (r := a % 4294967296) true (by omega) (by omega) (decide_eq_true (hX.2.2.1 (by omega))).symm
        rw [rsF_q] at L
        have dr : Dl 4 (a % 4294967296) := Dl.lit (by omega) (by omega)
        have ir : i64B (a % 4294967296) = true := i64B_iff.2 (by omega)
        have dX : Dl 10 (rsX (a % 4294967296)) := Dl.big (by omega) (by omega)
        have dd : Dl 4 (a % 4294967296) := Dl.lit (by omega) (by omega)
        have hV : realV a = rsQ (a % 4294967296) := by unfold realV; rw [if_neg c1]; unfold rsRed; rw [if_neg c2]
        have hQ : szB (rsQ (a % 4294967296)) = true := by have := alt_in hX.2.2.2.2 hX.2.2.2.1 160 (rsX (a % 4294967296)) 1 hX.1 (by omega); rw [← rsF_q, (rsF_alt _ 160 _ 0 1).1 (by decide)]; exact Dl.sz (k := 10) (Dl.big (by omega) (by omega)) (by omega)
        rw [hV]
        refine n_leaf (vs := [.int .i64 a]) (ctxLp_ok libP2_ok (eq_none _) (fns_nil _) (fun f fn h => by cases h)) (by kernel_rfl) Try.func73 rfl (lps_rs true) L rfl (all2_R (.cons rfl .nil)) (pickL_ok ?_ _) rfl ?_
        · repeat' (first | exact cd_nil | refine cd_cons ?_ ?_)
          all_goals first | rfl | with_reducible assumption | exact eq_self_b' _ | exact hS | (with_reducible apply Dl.sz; (repeat' (first | with_reducible assumption | with_reducible apply Dl.mul | with_reducible apply Dl.div)); omega)
        · repeat' (first | exact cd_nil | refine cd_cons ?_ ?_)
          all_goals first | rfl | with_reducible assumption | exact eq_self_b' _ | exact hS | (with_reducible apply Dl.sz; (repeat' (first | with_reducible assumption | with_reducible apply Dl.mul | with_reducible apply Dl.div)); omega)
      · skip
        have L := rsf0_000 a
        rw [sm32] at L
        rw [X_two] at L
        have hX := rsX_in (r := a % 4294967296) (by omega) (by omega)
        have hS := rs_start (r := a % 4294967296) false (by omega) (by omega) (decide_eq_false (by rw [show a % 4294967296 = 0 by omega]; decide +kernel)).symm
        have dr : Dl 4 (a % 4294967296) := Dl.lit (by omega) (by omega)
        have ir : i64B (a % 4294967296) = true := i64B_iff.2 (by omega)
        have dX : Dl 10 (rsX (a % 4294967296)) := Dl.big (by omega) (by omega)
        have dd : Dl 4 (a % 4294967296) := Dl.lit (by omega) (by omega)
        have hV : realV a = 0 := by unfold realV; rw [if_neg c1]; unfold rsRed; rw [if_neg c2, show a % 4294967296 = 0 by omega]; exact rsQ_0
        rw [hV]
        refine n_leaf (vs := [.int .i64 a]) (ctxLp_ok libP2_ok (eq_none _) (fns_nil _) (fun f fn h => by cases h)) (by kernel_rfl) Try.func73 rfl (lps_rs false) L rfl (all2_R (.cons rfl .nil)) (pickL_ok ?_ _) rfl ?_
        · repeat' (first | exact cd_nil | refine cd_cons ?_ ?_)
          all_goals first | rfl | with_reducible assumption | exact eq_self_b' _ | exact hS | (with_reducible apply Dl.sz; (repeat' (first | with_reducible assumption | with_reducible apply Dl.mul | with_reducible apply Dl.div)); omega)
        · repeat' (first | exact cd_nil | refine cd_cons ?_ ?_)
          all_goals first | rfl | with_reducible assumption | exact eq_self_b' _ | exact hS | (with_reducible apply Dl.sz; (repeat' (first | with_reducible assumption | with_reducible apply Dl.mul | with_reducible apply Dl.div)); omega)
def nReal : List Ar → Option (List Rs × List (Bool × Bool))
  | [.pl (.int .i64 a)] => some ([.num (realV a)], [(i64B a, true)])
  | _ => none
theorem nReal_ok : (nfn nReal).ok Try.prog numI 73 := nfn_ok fun xa rs cd h hc => by
  unfold nReal at h
  split at h
  · rename_i a
    cases h
    exact real_nc a (hc (i64B a, true) (by simp))
  · cases h
end Go.Proofs.Ytdhodjbomepfbaa

