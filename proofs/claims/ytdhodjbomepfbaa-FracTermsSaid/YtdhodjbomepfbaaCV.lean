/-
  frac.From as a function of facts; the second and the third loop of FracTerms.
  Conditions: those of each theorem.
-/
import Derived.Test.YtdhodjbomepfbaaCK
set_option linter.unusedVariables false
set_option linter.unusedSimpArgs false
namespace Go.Proofs.Ytdhodjbomepfbaa
open Go.RowKit Go.Shelf Ev Zd Wd

abbrev libH : List (Nat × FnSp Nm) := (103, factSp gCT) :: libG
abbrev libV : List (Nat × FnSp Nm) := [(18, nfn nI), (31, nfn nPlus), (49, nfn nTimes)]
theorem libH_ok : LibOk Try.prog rowI (lib1 libH) := lib1_cons gCT_ok Try.call103 libG_ok.rows
theorem libV_ok : LibOk Try.prog numI (lib1 libV) := (lib1_cons (nI_ok) Try.call18 (lib1_cons (nPlus_ok) Try.call31 (lib1_cons (nTimes_ok) Try.call49 (lib1_nil _ _))))
set_option maxRecDepth 100000 in
theorem fm_1 (l : List Int) : evR (ctxLp Try.prog rowI eqsF libH [] frLps) Try.f64 [(.w (.one (.fv (.row l))))] [true] = some (AV.tup [AW.agg [AC.int IntKind.i64 0, AC.int IntKind.i64 0], AW.one (AC.int IntKind.i64 (ctV l))], (pickL [(decide (lenI l ≤ 9223372036854775807), true), (ctV l != 0, true)] [0, 1])) := by kernel_rfl
set_option maxRecDepth 100000 in
theorem fm_01 (l : List Int) : evR (ctxLp Try.prog rowI eqsF libH [] frLps) Try.f64 [(.w (.one (.fv (.row l))))] [false, true] = some (AV.tup [AW.agg [AC.int IntKind.i64 (frR l (IntKind.i64.wrap (lenI l - 1) + 1).toNat 1 0).snd.fst, AC.int IntKind.i64 (frR l (IntKind.i64.wrap (lenI l - 1) + 1).toNat 1 0).snd.snd], AW.one (AC.int IntKind.i64 0)], (pickL [(decide (lenI l ≤ 9223372036854775807), true), (ctV l != 0, false), ((frR l (IntKind.i64.wrap (lenI l - 1) + 1).toNat 1 0).fst, true), (okR l (IntKind.i64.wrap (lenI l - 1)) 1 0, true)] [0, 1, 2, 3])) := by kernel_rfl
set_option maxRecDepth 100000 in
theorem fm_00 (l : List Int) : evR (ctxLp Try.prog rowI eqsF libH [] frLps) Try.f64 [(.w (.one (.fv (.row l))))] [false, false] = some (AV.tup [AW.agg [AC.int IntKind.i64 0, AC.int IntKind.i64 0], AW.one (AC.int IntKind.i64 2)], (pickL [(decide (lenI l ≤ 9223372036854775807), true), (ctV l != 0, false), ((frR l (IntKind.i64.wrap (lenI l - 1) + 1).toNat 1 0).fst, false), (okR l (IntKind.i64.wrap (lenI l - 1)) 1 0, true)] [0, 1, 2, 3])) := by kernel_rfl
set_option maxRecDepth 100000 in
theorem bdg_111 (l : List Int) (n : Int) (i : Int) (c : Int) (rest : List (Nat × AV Nm)) : evView (ctxOf Try.prog numI eqsF []) 189 (false :: [false, true, false, true, true, true, true, true, true, true, true]) (loopAt (bodyOf Try.f9) [false, true, false, true, true, true, true, true, true, true, true]) ([(82, .w (.one (.fv (.row l)))), (83, .w (.one (.int .i64 n))), (84, .w (.one (.int .i64 i))), (16, .w (.one (.int .i64 c)))] ++ (ptrN 0 [] ++ rest)) [] 0 [82, 83, 84, 16] [true, true, true] = some ((Ex.normal, [AV.w (AW.one (AC.fv (Nm.row l))), AV.w (AW.one (AC.int IntKind.i64 n)), AV.w (AW.one (AC.int IntKind.i64 (IntKind.i64.wrap (i + 1)))), AV.w (AW.one (AC.int IntKind.i64 4))], []), (pickL [(decide (i < n), true), (decide (0 ≤ i), true), (decide (i < lenI l), true), (c == 0, true), (decide (getI l i > 1152921504606846976), true), (true, true)] [0, 1, 2, 1, 2, 3, 3, 3, 4, 4, 3, 4, 3, 5, 5, 5, 5, 3, 5, 3, 5])) := by kernel_rfl
set_option maxRecDepth 100000 in
theorem bdg_1101 (l : List Int) (n : Int) (i : Int) (c : Int) (rest : List (Nat × AV Nm)) : evView (ctxOf Try.prog numI eqsF []) 189 (false :: [false, true, false, true, true, true, true, true, true, true, true]) (loopAt (bodyOf Try.f9) [false, true, false, true, true, true, true, true, true, true, true]) ([(82, .w (.one (.fv (.row l)))), (83, .w (.one (.int .i64 n))), (84, .w (.one (.int .i64 i))), (16, .w (.one (.int .i64 c)))] ++ (ptrN 0 [] ++ rest)) [] 0 [82, 83, 84, 16] [true, true, false, true] = some ((Ex.normal, [AV.w (AW.one (AC.fv (Nm.row l))), AV.w (AW.one (AC.int IntKind.i64 n)), AV.w (AW.one (AC.int IntKind.i64 (IntKind.i64.wrap (i + 1)))), AV.w (AW.one (AC.int IntKind.i64 4))], []), (pickL [(decide (i < n), true), (decide (0 ≤ i), true), (decide (i < lenI l), true), (c == 0, true), (decide (getI l i > 1152921504606846976), false), (decide (getI l i < -1152921504606846976), true), (true, true)] [0, 1, 2, 1, 2, 3, 3, 3, 4, 4, 3, 4, 3, 5, 5, 5, 5, 3, 5, 3, 6])) := by kernel_rfl
set_option maxRecDepth 100000 in
theorem bdg_110011 (l : List Int) (n : Int) (i : Int) (c : Int) (rest : List (Nat × AV Nm)) : evView (ctxOf Try.prog numI eqsF []) 189 (false :: [false, true, false, true, true, true, true, true, true, true, true]) (loopAt (bodyOf Try.f9) [false, true, false, true, true, true, true, true, true, true, true]) ([(82, .w (.one (.fv (.row l)))), (83, .w (.one (.int .i64 n))), (84, .w (.one (.int .i64 i))), (16, .w (.one (.int .i64 c)))] ++ (ptrN 0 [] ++ rest)) [] 0 [82, 83, 84, 16] [true, true, false, false, true, true] = some ((Ex.normal, [AV.w (AW.one (AC.fv (Nm.row l))), AV.w (AW.one (AC.int IntKind.i64 n)), AV.w (AW.one (AC.int IntKind.i64 (IntKind.i64.wrap (i + 1)))), AV.w (AW.one (AC.int IntKind.i64 4))], []), (pickL [(decide (i < n), true), (decide (0 ≤ i), true), (decide (i < lenI l), true), (c == 0, true), (decide (getI l i > 1152921504606846976), false), (decide (getI l i < -1152921504606846976), false), (decide (i > 0), true), (decide (getI l i < 1), true)] [0, 1, 2, 1, 2, 3, 3, 3, 4, 4, 3, 4, 3, 5, 5, 5, 6, 6, 5, 6, 3, 5, 3, 7])) := by kernel_rfl
set_option maxRecDepth 100000 in
theorem bdg_110010 (l : List Int) (n : Int) (i : Int) (c : Int) (rest : List (Nat × AV Nm)) : evView (ctxOf Try.prog numI eqsF []) 189 (false :: [false, true, false, true, true, true, true, true, true, true, true]) (loopAt (bodyOf Try.f9) [false, true, false, true, true, true, true, true, true, true, true]) ([(82, .w (.one (.fv (.row l)))), (83, .w (.one (.int .i64 n))), (84, .w (.one (.int .i64 i))), (16, .w (.one (.int .i64 c)))] ++ (ptrN 0 [] ++ rest)) [] 0 [82, 83, 84, 16] [true, true, false, false, true, false] = some ((Ex.normal, [AV.w (AW.one (AC.fv (Nm.row l))), AV.w (AW.one (AC.int IntKind.i64 n)), AV.w (AW.one (AC.int IntKind.i64 (IntKind.i64.wrap (i + 1)))), AV.w (AW.one (AC.int IntKind.i64 c))], []), (pickL [(decide (i < n), true), (decide (0 ≤ i), true), (decide (i < lenI l), true), (c == 0, true), (decide (getI l i > 1152921504606846976), false), (decide (getI l i < -1152921504606846976), false), (decide (i > 0), true), (decide (getI l i < 1), false)] [0, 1, 2, 1, 2, 3, 3, 3, 4, 4, 3, 4, 3, 5, 5, 5, 6, 6, 5, 6, 3, 5, 3, 7])) := by kernel_rfl
set_option maxRecDepth 100000 in
theorem bdg_11000 (l : List Int) (n : Int) (i : Int) (c : Int) (rest : List (Nat × AV Nm)) : evView (ctxOf Try.prog numI eqsF []) 189 (false :: [false, true, false, true, true, true, true, true, true, true, true]) (loopAt (bodyOf Try.f9) [false, true, false, true, true, true, true, true, true, true, true]) ([(82, .w (.one (.fv (.row l)))), (83, .w (.one (.int .i64 n))), (84, .w (.one (.int .i64 i))), (16, .w (.one (.int .i64 c)))] ++ (ptrN 0 [] ++ rest)) [] 0 [82, 83, 84, 16] [true, true, false, false, false] = some ((Ex.normal, [AV.w (AW.one (AC.fv (Nm.row l))), AV.w (AW.one (AC.int IntKind.i64 n)), AV.w (AW.one (AC.int IntKind.i64 (IntKind.i64.wrap (i + 1)))), AV.w (AW.one (AC.int IntKind.i64 c))], []), (pickL [(decide (i < n), true), (decide (0 ≤ i), true), (decide (i < lenI l), true), (c == 0, true), (decide (getI l i > 1152921504606846976), false), (decide (getI l i < -1152921504606846976), false), (decide (i > 0), false), (false, false)] [0, 1, 2, 1, 2, 3, 3, 3, 4, 4, 3, 4, 3, 5, 5, 5, 6, 6, 5, 6, 3, 5, 3, 7])) := by kernel_rfl
set_option maxRecDepth 100000 in
theorem bdg_10 (l : List Int) (n : Int) (i : Int) (c : Int) (rest : List (Nat × AV Nm)) : evView (ctxOf Try.prog numI eqsF []) 189 (false :: [false, true, false, true, true, true, true, true, true, true, true]) (loopAt (bodyOf Try.f9) [false, true, false, true, true, true, true, true, true, true, true]) ([(82, .w (.one (.fv (.row l)))), (83, .w (.one (.int .i64 n))), (84, .w (.one (.int .i64 i))), (16, .w (.one (.int .i64 c)))] ++ (ptrN 0 [] ++ rest)) [] 0 [82, 83, 84, 16] [true, false] = some ((Ex.normal, [AV.w (AW.one (AC.fv (Nm.row l))), AV.w (AW.one (AC.int IntKind.i64 n)), AV.w (AW.one (AC.int IntKind.i64 (IntKind.i64.wrap (i + 1)))), AV.w (AW.one (AC.int IntKind.i64 c))], []), (pickL [(decide (i < n), true), (decide (0 ≤ i), true), (decide (i < lenI l), true), (c == 0, false), (false, false)] [0, 1, 2, 1, 2, 3, 3, 3, 3, 3, 3, 3, 4])) := by kernel_rfl
set_option maxRecDepth 100000 in
theorem bdx_0 (l : List Int) (n : Int) (i : Int) (c : Int) (rest : List (Nat × AV Nm)) : evView (ctxOf Try.prog numI eqsF []) 189 (false :: [false, true, false, true, true, true, true, true, true, true, true]) (loopAt (bodyOf Try.f9) [false, true, false, true, true, true, true, true, true, true, true]) ([(82, .w (.one (.fv (.row l)))), (83, .w (.one (.int .i64 n))), (84, .w (.one (.int .i64 i))), (16, .w (.one (.int .i64 c)))] ++ (ptrN 0 [] ++ rest)) [] 0 [16] [false] = some ((Ex.exit 2, [AV.w (AW.one (AC.int IntKind.i64 c))], []), (pickL [(decide (i < n), false)] [0])) := by kernel_rfl
set_option maxRecDepth 100000 in
theorem c1_1 (l : List Int) (n : Int) (i : Int) (b : Int) (c : Int) (rest : List (Nat × AV Nm)) : evView (ctxOf Try.prog numI eqsF libV) 189 (false :: [false, true, false, true, true, true, true, true, true, true, true, true, true, true, true]) (loopAt (bodyOf Try.f9) [false, true, false, true, true, true, true, true, true, true, true, true, true, true, true]) ([(144, .w (.one (.fv (.row l)))), (145, .w (.one (.int .i64 n))), (146, .w (.one (.int .i64 i)))] ++ (ptrN 0 [20, 21] ++ rest)) [⟨88, [.yes false, .lit (.slice none 0 0), .bool (decide (b < 0)), .fv (.num b)]⟩, ⟨88, [.bool (decide (c < 0)), .fv (.num c), .yes false, .lit (.slice none 0 0)]⟩] 2 [144, 145, 146, 20, 21] [true] = some ((Ex.normal, [AV.w (AW.one (AC.fv (Nm.row l))), AV.w (AW.one (AC.int IntKind.i64 n)), AV.w (AW.one (AC.int IntKind.i64 (IntKind.i64.wrap (i + 1)))), AV.w (AW.one (AC.ptr 0 0)), AV.w (AW.one (AC.ptr 1 0))], [{ ty := 88, cs := [AC.bool (decide (b < 0)), AC.fv (Nm.num b), AC.bool (decide (0 + b * getI l i < 0)), AC.fv (Nm.num (0 + b * getI l i))] }, { ty := 88, cs := [AC.yes false, AC.lit (Value.slice none 0 0), AC.bool (decide (c + 0 * getI l i < 0)), AC.fv (Nm.num (c + 0 * getI l i))] }]), (pickL [(decide (i < n), true), (decide (0 ≤ i), true), (decide (i < lenI l), true), (decide ((0 : Int) ≤ 1), true), (decide (1 < ((2 : Nat) : Int)), true), (decide ((0 : Int) ≤ 0), true), (decide (0 < ((2 : Nat) : Int)), true), (i64B (getI l i), true), (decide (b < 0) == decide (b < 0), true), (decide (getI l i < 0) == decide (getI l i < 0), true), (szB b, true), (szB (getI l i), true), (decide (b * getI l i < 0) == decide (b * getI l i < 0), true), (szB 0, true), (szB (b * getI l i), true), (decide (c < 0) == decide (c < 0), true), (decide (0 * getI l i < 0) == decide (0 * getI l i < 0), true), (szB c, true), (szB (0 * getI l i), true)] [0, 1, 2, 1, 2, 3, 4, 5, 6, 3, 4, 7, 8, 9, 10, 11, 12, 13, 14, 3, 4, 5, 6, 3, 4, 7, 9, 13, 11, 15, 16, 17, 18])) := by kernel_rfl
set_option maxRecDepth 100000 in
theorem c2_1 (l : List Int) (n : Int) (i : Int) (a : Int) (b : Int) (d : Int) (rest : List (Nat × AV Nm)) : evView (ctxOf Try.prog numI eqsF libV) 189 (false :: [false, true, false, true, true, true, true, true, true, true, true, true, true, true, true]) (loopAt (bodyOf Try.f9) [false, true, false, true, true, true, true, true, true, true, true, true, true, true, true]) ([(144, .w (.one (.fv (.row l)))), (145, .w (.one (.int .i64 n))), (146, .w (.one (.int .i64 i)))] ++ (ptrN 0 [20, 21] ++ rest)) [⟨88, [.bool (decide (a < 0)), .fv (.num a), .bool (decide (b < 0)), .fv (.num b)]⟩, ⟨88, [.yes false, .lit (.slice none 0 0), .bool (decide (d < 0)), .fv (.num d)]⟩] 2 [144, 145, 146, 20, 21] [true] = some ((Ex.normal, [AV.w (AW.one (AC.fv (Nm.row l))), AV.w (AW.one (AC.int IntKind.i64 n)), AV.w (AW.one (AC.int IntKind.i64 (IntKind.i64.wrap (i + 1)))), AV.w (AW.one (AC.ptr 0 0)), AV.w (AW.one (AC.ptr 1 0))], [{ ty := 88, cs := [AC.bool (decide (b < 0)), AC.fv (Nm.num b), AC.bool (decide (a + b * getI l i < 0)), AC.fv (Nm.num (a + b * getI l i))] }, { ty := 88, cs := [AC.bool (decide (d < 0)), AC.fv (Nm.num d), AC.bool (decide (0 + d * getI l i < 0)), AC.fv (Nm.num (0 + d * getI l i))] }]), (pickL [(decide (i < n), true), (decide (0 ≤ i), true), (decide (i < lenI l), true), (decide ((0 : Int) ≤ 1), true), (decide (1 < ((2 : Nat) : Int)), true), (decide ((0 : Int) ≤ 0), true), (decide (0 < ((2 : Nat) : Int)), true), (i64B (getI l i), true), (decide (b < 0) == decide (b < 0), true), (decide (getI l i < 0) == decide (getI l i < 0), true), (szB b, true), (szB (getI l i), true), (decide (a < 0) == decide (a < 0), true), (decide (b * getI l i < 0) == decide (b * getI l i < 0), true), (szB a, true), (szB (b * getI l i), true), (decide (d < 0) == decide (d < 0), true), (szB d, true), (decide (d * getI l i < 0) == decide (d * getI l i < 0), true), (szB 0, true), (szB (d * getI l i), true)] [0, 1, 2, 1, 2, 3, 4, 5, 6, 3, 4, 7, 8, 9, 10, 11, 12, 13, 14, 15, 3, 4, 5, 6, 3, 4, 7, 16, 9, 17, 11, 18, 19, 20])) := by kernel_rfl
set_option maxRecDepth 100000 in
theorem c3_1 (l : List Int) (n : Int) (i : Int) (a : Int) (b : Int) (c : Int) (d : Int) (rest : List (Nat × AV Nm)) : evView (ctxOf Try.prog numI eqsF libV) 189 (false :: [false, true, false, true, true, true, true, true, true, true, true, true, true, true, true]) (loopAt (bodyOf Try.f9) [false, true, false, true, true, true, true, true, true, true, true, true, true, true, true]) ([(144, .w (.one (.fv (.row l)))), (145, .w (.one (.int .i64 n))), (146, .w (.one (.int .i64 i)))] ++ (ptrN 0 [20, 21] ++ rest)) [⟨88, [.bool (decide (a < 0)), .fv (.num a), .bool (decide (b < 0)), .fv (.num b)]⟩, ⟨88, [.bool (decide (c < 0)), .fv (.num c), .bool (decide (d < 0)), .fv (.num d)]⟩] 2 [144, 145, 146, 20, 21] [true] = some ((Ex.normal, [AV.w (AW.one (AC.fv (Nm.row l))), AV.w (AW.one (AC.int IntKind.i64 n)), AV.w (AW.one (AC.int IntKind.i64 (IntKind.i64.wrap (i + 1)))), AV.w (AW.one (AC.ptr 0 0)), AV.w (AW.one (AC.ptr 1 0))], [{ ty := 88, cs := [AC.bool (decide (b < 0)), AC.fv (Nm.num b), AC.bool (decide (a + b * getI l i < 0)), AC.fv (Nm.num (a + b * getI l i))] }, { ty := 88, cs := [AC.bool (decide (d < 0)), AC.fv (Nm.num d), AC.bool (decide (c + d * getI l i < 0)), AC.fv (Nm.num (c + d * getI l i))] }]), (pickL [(decide (i < n), true), (decide (0 ≤ i), true), (decide (i < lenI l), true), (decide ((0 : Int) ≤ 1), true), (decide (1 < ((2 : Nat) : Int)), true), (decide ((0 : Int) ≤ 0), true), (decide (0 < ((2 : Nat) : Int)), true), (i64B (getI l i), true), (decide (b < 0) == decide (b < 0), true), (decide (getI l i < 0) == decide (getI l i < 0), true), (szB b, true), (szB (getI l i), true), (decide (a < 0) == decide (a < 0), true), (decide (b * getI l i < 0) == decide (b * getI l i < 0), true), (szB a, true), (szB (b * getI l i), true), (decide (d < 0) == decide (d < 0), true), (szB d, true), (decide (c < 0) == decide (c < 0), true), (decide (d * getI l i < 0) == decide (d * getI l i < 0), true), (szB c, true), (szB (d * getI l i), true)] [0, 1, 2, 1, 2, 3, 4, 5, 6, 3, 4, 7, 8, 9, 10, 11, 12, 13, 14, 15, 3, 4, 5, 6, 3, 4, 7, 16, 9, 17, 11, 18, 19, 20, 21])) := by kernel_rfl
set_option maxRecDepth 100000 in
theorem x2_0 (l : List Int) (n : Int) (i : Int) (a : Int) (b : Int) (d : Int) (rest : List (Nat × AV Nm)) : evView (ctxOf Try.prog numI eqsF libV) 189 (false :: [false, true, false, true, true, true, true, true, true, true, true, true, true, true, true]) (loopAt (bodyOf Try.f9) [false, true, false, true, true, true, true, true, true, true, true, true, true, true, true]) ([(144, .w (.one (.fv (.row l)))), (145, .w (.one (.int .i64 n))), (146, .w (.one (.int .i64 i)))] ++ (ptrN 0 [20, 21] ++ rest)) [⟨88, [.bool (decide (a < 0)), .fv (.num a), .bool (decide (b < 0)), .fv (.num b)]⟩, ⟨88, [.yes false, .lit (.slice none 0 0), .bool (decide (d < 0)), .fv (.num d)]⟩] 2 [20, 21] [false] = some ((Ex.exit 4, [AV.w (AW.one (AC.ptr 0 0)), AV.w (AW.one (AC.ptr 1 0))], [{ ty := 88, cs := [AC.bool (decide (a < 0)), AC.fv (Nm.num a), AC.bool (decide (b < 0)), AC.fv (Nm.num b)] }, { ty := 88, cs := [AC.yes false, AC.lit (Value.slice none 0 0), AC.bool (decide (d < 0)), AC.fv (Nm.num d)] }]), (pickL [(decide (i < n), false)] [0])) := by kernel_rfl
set_option maxRecDepth 100000 in
theorem x3_0 (l : List Int) (n : Int) (i : Int) (a : Int) (b : Int) (c : Int) (d : Int) (rest : List (Nat × AV Nm)) : evView (ctxOf Try.prog numI eqsF libV) 189 (false :: [false, true, false, true, true, true, true, true, true, true, true, true, true, true, true]) (loopAt (bodyOf Try.f9) [false, true, false, true, true, true, true, true, true, true, true, true, true, true, true]) ([(144, .w (.one (.fv (.row l)))), (145, .w (.one (.int .i64 n))), (146, .w (.one (.int .i64 i)))] ++ (ptrN 0 [20, 21] ++ rest)) [⟨88, [.bool (decide (a < 0)), .fv (.num a), .bool (decide (b < 0)), .fv (.num b)]⟩, ⟨88, [.bool (decide (c < 0)), .fv (.num c), .bool (decide (d < 0)), .fv (.num d)]⟩] 2 [20, 21] [false] = some ((Ex.exit 4, [AV.w (AW.one (AC.ptr 0 0)), AV.w (AW.one (AC.ptr 1 0))], [{ ty := 88, cs := [AC.bool (decide (a < 0)), AC.fv (Nm.num a), AC.bool (decide (b < 0)), AC.fv (Nm.num b)] }, { ty := 88, cs := [AC.bool (decide (c < 0)), AC.fv (Nm.num c), AC.bool (decide (d < 0)), AC.fv (Nm.num d)] }]), (pickL [(decide (i < n), false)] [0])) := by kernel_rfl
def fmA (l : List Int) : Int := if ctV l = 0 then limA (kN l).1 (kN l).2 else 0
def fmB (l : List Int) : Int := if ctV l = 0 then limB (kN l).1 (kN l).2 else 0
def fmE (l : List Int) : Int := if ctV l = 0 then limE (kN l).1 (kN l).2 else ctV l
theorem ctV_zero {l : List Int} (h : ctV l = 0) : l ≠ [] ∧ rg (-1152921504606846976) l = true := by
  unfold ctV at h
  split at h
  · cases h
  · rename_i hn
    split at h
    · rename_i hr; exact ⟨hn, hr⟩
    · cases h
/-- frac.From. -/
def gFrom : List (AV Nm) → Option (AV Nm × List (Bool × Bool))
  | [.w (.one (.fv (.row l)))] => some (.tup [frA (fmA l) (fmB l), .one (.int .i64 (fmE l))], [(decide (lenI l ≤ 9223372036854775807), true)])
  | _ => none
set_option maxRecDepth 100000 in
theorem gFrom_ok : (factSp gFrom).ok Try.prog rowI 64 :=
  factR_ok (ctxLp_ok libH_ok eqsF_ok (fns_nil _) (fun f fn h => by cases h)) (by kernel_rfl) Try.func64 rfl frLps_ok fun args v cd hg hc => by
    unfold gFrom at hg
    split at hg
    · rename_i l
      cases hg
      refine ⟨rfl, rfl, rfl, ?_⟩
      have h1 : lenI l ≤ 9223372036854775807 := of_decide_eq_true (hc (decide (lenI l ≤ 9223372036854775807), true) (by simp))
      have c0 : decide (lenI l ≤ 9223372036854775807) = true := decide_eq_true h1
      by_cases hz : ctV l = 0
      · obtain ⟨hn, hr⟩ := ctV_zero hz
        have hp : 0 < l.length := List.length_pos_iff.2 hn
        have w1 : IntKind.i64.wrap (lenI l - 1) = lenI l - 1 := by rw [IntKind.wrap_i64]; unfold lenI at h1 ⊢; omega
        have w2 : (IntKind.i64.wrap (lenI l - 1) + 1).toNat = l.length := by rw [w1]; unfold lenI; omega
        have c1 : (ctV l != 0) = false := by rw [hz]; rfl
        have c2 : okR l (IntKind.i64.wrap (lenI l - 1)) 1 0 = true := by
          rw [w1]
          simp only [okR, Bool.and_eq_true, decide_eq_true_eq]
          refine ⟨⟨⟨⟨⟨⟨⟨hr, ?_⟩, ?_⟩, h1⟩, by omega⟩, by omega⟩, by omega⟩, by omega⟩ <;> unfold lenI <;> omega
        obtain ⟨k1, k2⟩ := frR_is hr l.length (Nat.le_refl _) (fun h => by omega)
        rw [List.drop_eq_nil_of_le (Nat.le_refl _)] at k1 k2
        by_cases hf : frOk (kN l).1 (kN l).2 = true
        · have c3 : (frR l (IntKind.i64.wrap (lenI l - 1) + 1).toNat 1 0).fst = true := by rw [w2]; exact k1.trans hf
          refine ⟨[false, true], _, _, fm_01 l, fun E u hu => ?_, pickL_ok ?_ _⟩
          · obtain ⟨e1, e2, e3⟩ := lim_yes (frOk_iff.1 hf)
            have k3 : (frR l l.length 1 0).2 = kN l := k2 hf
            rw [w2, k3] at hu
            rw [show fmA l = (kN l).1 by rw [fmA, if_pos hz, e1], show fmB l = (kN l).2 by rw [fmB, if_pos hz, e2], show fmE l = 0 by rw [fmE, if_pos hz, e3]]
            exact hu
          repeat' (first | exact cd_nil | refine cd_cons ?_ ?_)
          all_goals first | rfl | with_reducible assumption
        · have c3 : (frR l (IntKind.i64.wrap (lenI l - 1) + 1).toNat 1 0).fst = false := by rw [w2]; exact k1.trans (by simpa using hf)
          refine ⟨[false, false], _, _, fm_00 l, fun E u hu => ?_, pickL_ok ?_ _⟩
          · obtain ⟨e1, e2, e3⟩ := lim_no (fun h => hf (frOk_iff.2 h))
            rw [show fmA l = 0 by rw [fmA, if_pos hz, e1], show fmB l = 0 by rw [fmB, if_pos hz, e2], show fmE l = 2 by rw [fmE, if_pos hz, e3]]
            exact hu
          repeat' (first | exact cd_nil | refine cd_cons ?_ ?_)
          all_goals first | rfl | with_reducible assumption
      · have c1 : (ctV l != 0) = true := by simpa using hz
        refine ⟨[true], _, _, fm_1 l, fun E u hu => ?_, pickL_ok ?_ _⟩
        · rw [show fmA l = 0 by rw [fmA, if_neg hz], show fmB l = 0 by rw [fmB, if_neg hz], show fmE l = ctV l by rw [fmE, if_neg hz]]
          exact hu
        repeat' (first | exact cd_nil | refine cd_cons ?_ ?_)
        all_goals first | rfl | with_reducible assumption
    · cases hg

/-- The second loop: which error the terms have. -/
structure BD where
  l : List Int
  n : Int
  i : Int
  c : Int
def bdTm (l : List Int) (n i c : Int) : List (Nat × AV Nm) := [(82, .w (.one (.fv (.row l)))), (83, .w (.one (.int .i64 n))), (84, .w (.one (.int .i64 i))), (16, .w (.one (.int .i64 c)))]
def bdS : LpSt BD Nm where
  ps := []
  tm := fun t => bdTm t.l t.n t.i t.c
  hp := fun _ => []
def lst (i : Int) : Int := if 0 < i then 1 else -1152921504606846976
def bdV (l : List Int) (i c : Int) : Int := if c = 0 ∧ ¬ (lst i ≤ getI l i ∧ getI l i ≤ 1152921504606846976) then 4 else c
def bdStep (t : BD) : Nxt BD Nm := if okC t.l t.n t.i = true then (if t.i < t.n then .go ⟨t.l, t.n, t.i + 1, bdV t.l t.i t.c⟩ else .out (.exit 2) [(16, .w (.one (.int .i64 t.c)))] []) else .bad
set_option maxRecDepth 100000 in
theorem bd_round (t : BD) (hb : (bdStep t).isBad = false) (rest : List (Nat × AV Nm)) : ∃ fuel path r, evC (ctxOf Try.prog numI eqsF []) fuel 189 (false :: [false, true, false, true, true, true, true, true, true, true, true]) (loopAt (bodyOf Try.f9) [false, true, false, true, true, true, true, true, true, true, true]) (bdS.tm t ++ (ptrN 0 bdS.ps ++ rest)) (numb 0 (bdS.hp t)) 0 path = some r ∧ (∀ p ∈ r.cd, p.1 = p.2) ∧ Gives bdS 0 r (bdStep t) := by
  obtain ⟨l, n, i, c⟩ := t
  unfold bdStep at hb ⊢
  cases hok : okC l n i with
  | false => simp only [hok] at hb; cases hb
  | true =>
  clear hb
  simp only [if_true]
  simp only [okC, Bool.and_eq_true, decide_eq_true_eq] at hok
  obtain ⟨⟨⟨h1, h2⟩, h3⟩, h4⟩ := hok
  by_cases hi : i < n
  · simp only [if_pos hi]
    have c1 : decide (i < n) = true := decide_eq_true hi
    have c2 : decide (0 ≤ i) = true := decide_eq_true h2
    have c3 : decide (i < lenI l) = true := decide_eq_true (by omega)
    have w1 : IntKind.i64.wrap (i + 1) = i + 1 := by rw [IntKind.wrap_i64]; omega
    by_cases hc : c = 0
    · have c4 : (c == 0) = true := by rw [hc]; rfl
      by_cases g1 : getI l i > 1152921504606846976
      · have hv : bdV l i c = 4 := if_pos ⟨hc, fun h => by omega⟩
        have c5 : decide (getI l i > 1152921504606846976) = true := decide_eq_true g1
        rw [hv]
        have L := bdg_111 l n i c rest
        rw [w1] at L
        refine round_go L (pickL_ok ?_ _) rfl rfl rfl rfl
        repeat' (first | exact cd_nil | refine cd_cons ?_ ?_)
        all_goals first | rfl | with_reducible assumption
      · have c5 : decide (getI l i > 1152921504606846976) = false := decide_eq_false g1
        by_cases g2 : getI l i < -1152921504606846976
        · have hv : bdV l i c = 4 := if_pos ⟨hc, fun h => by unfold lst at h; split at h <;> omega⟩
          have c6 : decide (getI l i < -1152921504606846976) = true := decide_eq_true g2
          rw [hv]
          have L := bdg_1101 l n i c rest
          rw [w1] at L
          refine round_go L (pickL_ok ?_ _) rfl rfl rfl rfl
          repeat' (first | exact cd_nil | refine cd_cons ?_ ?_)
          all_goals first | rfl | with_reducible assumption
        · have c6 : decide (getI l i < -1152921504606846976) = false := decide_eq_false g2
          by_cases g3 : i > 0
          · have c7 : decide (i > 0) = true := decide_eq_true g3
            by_cases g4 : getI l i < 1
            · have hv : bdV l i c = 4 := if_pos ⟨hc, fun h => by unfold lst at h; rw [if_pos g3] at h; omega⟩
              have c8 : decide (getI l i < 1) = true := decide_eq_true g4
              rw [hv]
              have L := bdg_110011 l n i c rest
              rw [w1] at L
              refine round_go L (pickL_ok ?_ _) rfl rfl rfl rfl
              repeat' (first | exact cd_nil | refine cd_cons ?_ ?_)
              all_goals first | rfl | with_reducible assumption
            · have hv : bdV l i c = c := if_neg fun h => h.2 (by unfold lst; rw [if_pos g3]; omega)
              have c8 : decide (getI l i < 1) = false := decide_eq_false g4
              rw [hv]
              have L := bdg_110010 l n i c rest
              rw [w1] at L
              refine round_go L (pickL_ok ?_ _) rfl rfl rfl rfl
              repeat' (first | exact cd_nil | refine cd_cons ?_ ?_)
              all_goals first | rfl | with_reducible assumption
          · have c7 : decide (i > 0) = false := decide_eq_false g3
            have hv : bdV l i c = c := if_neg fun h => h.2 (by unfold lst; rw [if_neg g3]; omega)
            rw [hv]
            have L := bdg_11000 l n i c rest
            rw [w1] at L
            refine round_go L (pickL_ok ?_ _) rfl rfl rfl rfl
            repeat' (first | exact cd_nil | refine cd_cons ?_ ?_)
            all_goals first | rfl | with_reducible assumption
    · have c4 : (c == 0) = false := by simpa using hc
      have hv : bdV l i c = c := if_neg fun h => hc h.1
      rw [hv]
      have L := bdg_10 l n i c rest
      rw [w1] at L
      refine round_go L (pickL_ok ?_ _) rfl rfl rfl rfl
      repeat' (first | exact cd_nil | refine cd_cons ?_ ?_)
      all_goals first | rfl | with_reducible assumption
  · simp only [if_neg hi]
    have c1 : decide (i < n) = false := decide_eq_false hi
    refine round_outR (bdx_0 l n i c rest) rfl (pickL_ok ?_ _) rfl rfl
    repeat' (first | exact cd_nil | refine cd_cons ?_ ?_)
    all_goals first | rfl | with_reducible assumption
def bdO (l : List Int) (k : Nat) (c : Int) : Int := if c = 0 then (if rg (lst (k : Int)) (l.drop k) = true then 0 else 4) else c
theorem bdO_next {l : List Int} {k : Nat} {c : Int} (hk : k < l.length) : bdO l (k + 1) (bdV l (k : Int) c) = bdO l k c := by
  have el : lst ((k + 1 : Nat) : Int) = 1 := if_pos (by omega)
  by_cases hc : c = 0
  · subst hc
    by_cases hg : lst (k : Int) ≤ getI l (k : Int) ∧ getI l (k : Int) ≤ 1152921504606846976
    · have hv : bdV l (k : Int) 0 = 0 := if_neg fun h => h.2 hg
      rw [hv]
      unfold bdO
      rw [if_pos rfl, if_pos rfl, el, drop_get hk]
      simp [rg, hg.1, hg.2]
    · have hv : bdV l (k : Int) 0 = 4 := if_pos ⟨rfl, hg⟩
      rw [hv]
      unfold bdO
      rw [if_neg (by decide), if_pos rfl, drop_get hk, if_neg (fun h => hg ⟨(rg_tail h).1, (rg_tail h).2.1⟩)]
  · have hv : bdV l (k : Int) c = c := if_neg fun h => hc h.1
    rw [hv]
    unfold bdO
    rw [if_neg hc, if_neg hc]
theorem bd_runs {l : List Int} (h5 : lenI l ≤ 9223372036854775807) : ∀ (B k : Nat) (c : Int), k + B = l.length →
    ∃ M, runs bdStep M ⟨l, lenI l, (k : Int), c⟩ = some (.exit 2, [(16, .w (.one (.int .i64 (bdO l k c))))], [])
  | 0, k, c, hk => by
    have e : l.drop k = [] := List.drop_eq_nil_of_le (by omega)
    have hok : okC l (lenI l) (k : Int) = true := by
      simp only [okC, Bool.and_eq_true, decide_eq_true_eq]
      exact ⟨⟨⟨trivial, by omega⟩, by unfold lenI; omega⟩, h5⟩
    have hst : bdStep ⟨l, lenI l, (k : Int), c⟩ = .out (.exit 2) [(16, .w (.one (.int .i64 c)))] [] := by
      unfold bdStep
      rw [if_pos hok, if_neg (by show ¬ ((k : Int) < lenI l); unfold lenI; omega)]
    have ev : bdO l k c = c := by
      unfold bdO
      rw [e]
      by_cases hc : c = 0
      · rw [if_pos hc, if_pos (show rg (lst (k : Int)) [] = true from rfl), hc]
      · rw [if_neg hc]
    refine ⟨1, ?_⟩
    rw [ev]
    simp only [runs, hst]
  | B + 1, k, c, hk => by
    have hok : okC l (lenI l) (k : Int) = true := by
      simp only [okC, Bool.and_eq_true, decide_eq_true_eq]
      exact ⟨⟨⟨trivial, by omega⟩, by unfold lenI; omega⟩, h5⟩
    have e2 : (k : Int) < lenI l := by unfold lenI; omega
    have hst : bdStep ⟨l, lenI l, (k : Int), c⟩ = .go ⟨l, lenI l, ((k + 1 : Nat) : Int), bdV l (k : Int) c⟩ := by
      unfold bdStep
      rw [if_pos hok, if_pos e2]
      rfl
    obtain ⟨M, hM⟩ := bd_runs h5 B (k + 1) (bdV l (k : Int) c) (by omega)
    refine ⟨M + 1, ?_⟩
    rw [bdO_next (by omega)] at hM
    simp only [runs, hst]
    exact hM
def bdD : LpDefR BD Nm where
  ts := [82, 83, 84, 16]
  ps := []
  rs := []
  W := [16, 17, 18, 82, 83, 84, 85, 86, 87, 88, 89, 90, 91, 92, 93, 94, 95, 96, 97, 98, 99, 100, 101, 102, 103, 104, 105, 106, 107]
  dec := fun vs tr ks => match vs, tr, ks with
    | [.w (.one (.fv (.row l))), .w (.one (.int .i64 n)), .w (.one (.int .i64 i)), .w (.one (.int .i64 c))], [], [] => some ⟨l, n, i, c⟩
    | _, _, _ => none
  fk := fun _ => none
  spec := fun t _ => some (.exit 2, [(16, .w (.one (.int .i64 (bdO t.l 0 t.c))))], [], [], [(okC t.l t.n t.i && decide (t.i = 0), true)])
theorem bdD_ok (x : Code) (hx : codeAt (bodyOf Try.f9) [false, true, false, true, true, true, true, true, true, true, true] = some (.loop x)) : LpOk Try.prog numI 189 x (bdD.sp nmSafe) := by
  obtain rfl := loopAt_eq hx
  refine lpR_ok (c := ctxOf Try.prog numI eqsF []) (ctxOf_ok (lib1_nil _ _) eqsF_ok) (by kernel_rfl) (fun _ _ _ h => h) hx lps_nil (S := bdS) (step := bdStep) (fun _ h => h) (by kernel_rfl) (by kernel_rfl) ?_ rfl (fun t e he => ?_) (fun t hb rest => bd_round t hb rest) ?_
  · intro vs tr ks s hv1 hv2 h hv3
    simp only [bdD] at h
    split at h
    · cases h
      exact ⟨rfl, fun e he => .inl he⟩
    · cases h
  · have : ∀ e ∈ bdTm t.l t.n t.i t.c, memN e.1 bdD.W = true := fun e he => by
      simp only [bdTm, List.mem_cons, List.not_mem_nil, or_false] at he
      rcases he with rfl | rfl | rfl | rfl <;> rfl
    exact this e he
  · intro s β ex outs rts wb cd h hfk hc
    obtain ⟨l, n, i, c⟩ := s
    simp only [bdD] at h
    cases h
    have := hc _ (List.mem_cons_self)
    simp only [okC, Bool.and_eq_true, decide_eq_true_eq] at this
    obtain ⟨⟨⟨⟨h1, h2⟩, h3⟩, h4⟩, h0⟩ := this
    subst h0
    subst h1
    exact bd_runs h4 l.length 0 c (by omega)

/-- The third loop: the convergents. -/
inductive Ph where
  | a | b | c
structure CV where
  ph : Ph
  l : List Int
  n : Int
  i : Int
  a : Int
  b : Int
  c : Int
  d : Int
  ba : Bool
  bb : Bool
  bc : Bool
  bd : Bool
def cvTm (l : List Int) (n i : Int) : List (Nat × AV Nm) := [(144, .w (.one (.fv (.row l)))), (145, .w (.one (.int .i64 n))), (146, .w (.one (.int .i64 i)))]
def cvB (a b c d : Int) (ba bb bc bd : Bool) : Ph → List (Blk Nm)
  | .a => [⟨88, [.yes false, .lit (.slice none 0 0), .bool bb, .fv (.num b)]⟩, ⟨88, [.bool bc, .fv (.num c), .yes false, .lit (.slice none 0 0)]⟩]
  | .b => [⟨88, [.bool ba, .fv (.num a), .bool bb, .fv (.num b)]⟩, ⟨88, [.yes false, .lit (.slice none 0 0), .bool bd, .fv (.num d)]⟩]
  | .c => [⟨88, [.bool ba, .fv (.num a), .bool bb, .fv (.num b)]⟩, ⟨88, [.bool bc, .fv (.num c), .bool bd, .fv (.num d)]⟩]
def cvS : LpSt CV Nm where
  ps := [20, 21]
  tm := fun t => cvTm t.l t.n t.i
  hp := fun t => cvB t.a t.b t.c t.d t.ba t.bb t.bc t.bd t.ph
def Bg (k : Nat) (z : Int) : Prop := z.natAbs < 1000000 ^ (4 * (k + 1))
instance (k : Nat) (z : Int) : Decidable (Bg k z) := inferInstanceAs (Decidable (_ < _))
theorem Bg.dl {k : Nat} {z : Int} (h : Bg k z) : Dl (4 * (k + 1)) z := digs_len h
theorem Bg.next {k : Nat} {a b t : Int} (ha : Bg k a) (hb : Bg k b) (h1 : -1152921504606846976 ≤ t) (h2 : t ≤ 1152921504606846976) : Bg (k + 1) (a + b * t) := by
  unfold Bg at *
  have e : (1000000 : Nat) ^ (4 * (k + 1 + 1)) = 1000000 ^ (4 * (k + 1)) * 1000000000000000000000000 := by
    rw [show 4 * (k + 1 + 1) = 4 * (k + 1) + 4 by omega, Nat.pow_add]
  rw [e]
  have p1 : (b * t).natAbs = b.natAbs * t.natAbs := Int.natAbs_mul b t
  have p2 : b.natAbs * t.natAbs ≤ b.natAbs * 1152921504606846976 := Nat.mul_le_mul_left _ (by omega)
  have p3 : (a + b * t).natAbs ≤ a.natAbs + (b * t).natAbs := Int.natAbs_add_le _ _
  omega
theorem Bg.up {k : Nat} {z : Int} (h : Bg k z) : Bg (k + 1) z := by
  unfold Bg at *
  exact Nat.lt_of_lt_of_le h (Nat.pow_le_pow_right (by omega) (by omega))
def CV.okp (t : CV) : Prop := t.n = lenI t.l ∧ 0 ≤ t.i ∧ t.i ≤ t.n ∧ t.n ≤ 200 ∧ rg (-1152921504606846976) t.l = true ∧ (Bg t.i.toNat t.a ∧ Bg t.i.toNat t.b ∧ Bg t.i.toNat t.c ∧ Bg t.i.toNat t.d) ∧
  (t.ba = decide (t.a < 0) ∧ t.bb = decide (t.b < 0) ∧ t.bc = decide (t.c < 0) ∧ t.bd = decide (t.d < 0)) ∧ (match t.ph with | .a => t.a = 0 ∧ t.d = 0 ∧ t.i < t.n | .b => t.c = 0 | .c => True)
noncomputable instance (t : CV) : Decidable t.okp := Classical.propDecidable _
def Ph.next : Ph → Ph
  | .a => .b
  | _ => .c
def cvGo (t : CV) : CV := ⟨t.ph.next, t.l, t.n, t.i + 1, t.b, t.a + t.b * getI t.l t.i, t.d, t.c + t.d * getI t.l t.i, decide (t.b < 0), decide (t.a + t.b * getI t.l t.i < 0), decide (t.d < 0), decide (t.c + t.d * getI t.l t.i < 0)⟩
noncomputable def cvStep (t : CV) : Nxt CV Nm := if t.okp then (if t.i < t.n then .go (cvGo t) else .out (.exit 4) [] (cvB t.a t.b t.c t.d (decide (t.a < 0)) (decide (t.b < 0)) (decide (t.c < 0)) (decide (t.d < 0)) t.ph)) else .bad
set_option maxRecDepth 100000 in
theorem cv_round (t : CV) (hb : (cvStep t).isBad = false) (rest : List (Nat × AV Nm)) : ∃ fuel path r, evC (ctxOf Try.prog numI eqsF libV) fuel 189 (false :: [false, true, false, true, true, true, true, true, true, true, true, true, true, true, true]) (loopAt (bodyOf Try.f9) [false, true, false, true, true, true, true, true, true, true, true, true, true, true, true]) (cvS.tm t ++ (ptrN 0 cvS.ps ++ rest)) (numb 0 (cvS.hp t)) 2 path = some r ∧ (∀ p ∈ r.cd, p.1 = p.2) ∧ Gives cvS 2 r (cvStep t) := by
  unfold cvStep at hb ⊢
  by_cases hok : t.okp
  case neg => rw [if_neg hok] at hb; cases hb
  clear hb
  rw [if_pos hok]
  obtain ⟨ph, l, n, i, a, b, c, d, ba, bb, bc, bd⟩ := t
  obtain ⟨h1, h2, h3, h4, h5, ⟨k1, k2, k3, k4⟩, ⟨e1, e2, e3, e4⟩, hp⟩ := hok
  simp only at h1 h2 h3 h4 h5 k1 k2 k3 k4 e1 e2 e3 e4 hp
  replace e1 : ba = decide (a < 0) := e1
  replace e2 : bb = decide (b < 0) := e2
  replace e3 : bc = decide (c < 0) := e3
  replace e4 : bd = decide (d < 0) := e4
  subst e1 e2 e3 e4
  by_cases hi : i < n
  · rw [if_pos (show (CV.mk ph l n i a b c d _ _ _ _).i < (CV.mk ph l n i a b c d _ _ _ _).n from hi)]
    have q1 : decide (i < n) = true := decide_eq_true hi
    have q2 : decide (0 ≤ i) = true := decide_eq_true h2
    have q3 : decide (i < lenI l) = true := decide_eq_true (by omega)
    have w1 : IntKind.i64.wrap (i + 1) = i + 1 := by rw [IntKind.wrap_i64]; omega
    have hx : ((i.toNat : Nat) : Int) = i := Int.toNat_of_nonneg h2
    have hgt := rg_get (k := i.toNat) h5 (by omega) (by unfold lenI at h1; omega)
    rw [hx] at hgt
    have q4 : i64B (getI l i) = true := i64B_iff.2 (by omega)
    have hN : i.toNat < 200 := by omega
    have dt := Dl.i64 q4
    have s_a := k1.dl.sz (by omega)
    have s_b := k2.dl.sz (by omega)
    have s_c := k3.dl.sz (by omega)
    have s_d := k4.dl.sz (by omega)
    have s_t := dt.sz (by omega)
    have s_bt := (k2.dl.mul dt).sz (by omega)
    have s_dt := (k4.dl.mul dt).sz (by omega)
    cases ph with
    | a =>
      obtain ⟨p1, p2, p3⟩ := hp
      subst p1 p2
      have L := c1_1 l n i b c rest
      rw [w1] at L
      refine round_go L (pickL_ok ?_ _) rfl rfl rfl rfl
      repeat' (first | exact cd_nil | refine cd_cons ?_ ?_)
      all_goals first | rfl | with_reducible assumption | exact eq_self_b _
    | b =>
      subst hp
      have L := c2_1 l n i a b d rest
      rw [w1] at L
      refine round_go L (pickL_ok ?_ _) rfl rfl rfl rfl
      repeat' (first | exact cd_nil | refine cd_cons ?_ ?_)
      all_goals first | rfl | with_reducible assumption | exact eq_self_b _
    | c =>
      have L := c3_1 l n i a b c d rest
      rw [w1] at L
      refine round_go L (pickL_ok ?_ _) rfl rfl rfl rfl
      repeat' (first | exact cd_nil | refine cd_cons ?_ ?_)
      all_goals first | rfl | with_reducible assumption | exact eq_self_b _
  · rw [if_neg (show ¬ (CV.mk ph l n i a b c d _ _ _ _).i < (CV.mk ph l n i a b c d _ _ _ _).n from hi)]
    have q1 : decide (i < n) = false := decide_eq_false hi
    cases ph with
    | a => obtain ⟨p1, p2, p3⟩ := hp; exact absurd p3 hi
    | b =>
      refine round_outR (x2_0 l n i a b d rest) rfl (pickL_ok ?_ _) rfl rfl
      repeat' (first | exact cd_nil | refine cd_cons ?_ ?_)
      all_goals first | rfl | with_reducible assumption
    | c =>
      refine round_outR (x3_0 l n i a b c d rest) rfl (pickL_ok ?_ _) rfl rfl
      repeat' (first | exact cd_nil | refine cd_cons ?_ ?_)
      all_goals first | rfl | with_reducible assumption
def cvE (p q : Int × Int) (ph : Ph) : List (Blk Nm) := cvB p.1 p.2 q.1 q.2 (decide (p.1 < 0)) (decide (p.2 < 0)) (decide (q.1 < 0)) (decide (q.2 < 0)) ph
def cvAt (ph : Ph) (l : List Int) (k : Nat) (a b c d : Int) : CV := ⟨ph, l, lenI l, (k : Int), a, b, c, d, decide (a < 0), decide (b < 0), decide (c < 0), decide (d < 0)⟩
theorem cv_step {ph : Ph} {l : List Int} {k : Nat} {a b c d : Int} (hr : rg (-1152921504606846976) l = true) (hl : l.length ≤ 200) (hk : k ≤ l.length) (k1 : Bg k a) (k2 : Bg k b) (k3 : Bg k c) (k4 : Bg k d)
    (hp : match ph with | .a => a = 0 ∧ d = 0 ∧ (k : Int) < lenI l | .b => c = 0 | .c => True) :
    cvStep (cvAt ph l k a b c d) = if k < l.length then .go (cvAt ph.next l (k + 1) b (a + b * getI l (k : Int)) d (c + d * getI l (k : Int))) else .out (.exit 4) [] (cvE (a, b) (c, d) ph) := by
  have hok : (cvAt ph l k a b c d).okp := ⟨rfl, by show (0 : Int) ≤ (k : Int); omega, by show (k : Int) ≤ lenI l; unfold lenI; omega, by show lenI l ≤ 200; unfold lenI; omega, hr, ⟨by show Bg (k : Int).toNat a; rwa [Int.toNat_natCast], by show Bg (k : Int).toNat b; rwa [Int.toNat_natCast], by show Bg (k : Int).toNat c; rwa [Int.toNat_natCast], by show Bg (k : Int).toNat d; rwa [Int.toNat_natCast]⟩, ⟨rfl, rfl, rfl, rfl⟩, hp⟩
  unfold cvStep
  rw [if_pos hok]
  by_cases h : k < l.length
  · rw [if_pos h, if_pos (show (cvAt ph l k a b c d).i < (cvAt ph l k a b c d).n by show (k : Int) < lenI l; unfold lenI; omega)]
    rfl
  · rw [if_neg h, if_neg (show ¬ (cvAt ph l k a b c d).i < (cvAt ph l k a b c d).n by show ¬ (k : Int) < lenI l; unfold lenI; omega)]
    rfl
theorem cv_runs {l : List Int} (hr : rg (-1152921504606846976) l = true) (hl : l.length ≤ 200) : ∀ (B k : Nat) (a b c d : Int), k + B = l.length → Bg k a → Bg k b → Bg k c → Bg k d →
    ∃ M, runs cvStep M (cvAt .c l k a b c d) = some (.exit 4, [], cvE (cvF (l.drop k) a b) (cvF (l.drop k) c d) .c)
  | 0, k, a, b, c, d, hk, k1, k2, k3, k4 => by
    have e : l.drop k = [] := List.drop_eq_nil_of_le (by omega)
    have hst := cv_step (ph := .c) hr hl (by omega) k1 k2 k3 k4 trivial
    rw [if_neg (by omega)] at hst
    refine ⟨1, ?_⟩
    rw [e]
    simp only [runs, hst]
    rfl
  | B + 1, k, a, b, c, d, hk, k1, k2, k3, k4 => by
    have hst := cv_step (ph := .c) hr hl (by omega) k1 k2 k3 k4 trivial
    rw [if_pos (by omega)] at hst
    obtain ⟨g1, g2⟩ := rg_get (k := k) hr (by omega) (by omega)
    obtain ⟨M, hM⟩ := cv_runs hr hl B (k + 1) b (a + b * getI l (k : Int)) d (c + d * getI l (k : Int)) (by omega) k2.up (k1.next k2 g1 g2) k4.up (k3.next k4 g1 g2)
    refine ⟨M + 1, ?_⟩
    rw [drop_get (by omega)]
    simp only [runs, hst]
    exact hM
theorem cv_all {l : List Int} (hr : rg (-1152921504606846976) l = true) (hl : l.length ≤ 200) (h0 : 0 < l.length) :
    ∃ M, runs cvStep M (cvAt .a l 0 0 1 1 0) = some (.exit 4, [], cvE (cvF l 0 1) (cvF l 1 0) (if l.length = 1 then .b else .c)) := by
  have b0 : Bg 0 0 := by decide +kernel
  have b1 : Bg 0 1 := by decide +kernel
  have s0 := cv_step (ph := .a) hr hl (Nat.zero_le _) b0 b1 b1 b0 ⟨rfl, rfl, by unfold lenI; omega⟩
  rw [if_pos h0] at s0
  obtain ⟨g1, g2⟩ := rg_get (k := 0) hr (by omega) h0
  have e0 := drop_get h0
  rw [List.drop_zero] at e0
  have k1 : Bg 1 1 := b1.up
  have k2 : Bg 1 (0 + 1 * getI l ((0 : Nat) : Int)) := b0.next b1 g1 g2
  have k3 : Bg 1 0 := b0.up
  have k4 : Bg 1 (1 + 0 * getI l ((0 : Nat) : Int)) := b1.next b0 g1 g2
  have s1 := cv_step (ph := .b) hr hl (show 1 ≤ l.length by omega) k1 k2 k3 k4 rfl
  by_cases hm : l.length = 1
  · rw [if_neg (by omega)] at s1
    rw [if_pos hm]
    have e1 : l.drop (0 + 1) = [] := List.drop_eq_nil_of_le (by omega)
    rw [e1] at e0
    have p1 : cvF l 0 1 = (1, 0 + 1 * getI l ((0 : Nat) : Int)) := by rw [e0]; rfl
    have p2 : cvF l 1 0 = (0, 1 + 0 * getI l ((0 : Nat) : Int)) := by rw [e0]; rfl
    refine ⟨2, ?_⟩
    rw [p1, p2]
    simp only [runs, s0]
    show runs cvStep 1 (cvAt .b l 1 1 (0 + 1 * getI l ((0 : Nat) : Int)) 0 (1 + 0 * getI l ((0 : Nat) : Int))) = _
    simp only [runs, s1]
  · rw [if_pos (by omega)] at s1
    rw [if_neg hm]
    have hg := rg_get (k := 1) hr (by omega) (show 1 < l.length by omega)
    obtain ⟨M, hM⟩ := cv_runs hr hl (l.length - 2) 2 _ _ _ _ (by omega) k2.up (k1.next k2 hg.1 hg.2) k4.up (k3.next k4 hg.1 hg.2)
    refine ⟨M + 2, ?_⟩
    have e1 := drop_get (show 1 < l.length by omega)
    have p1 : cvF l 0 1 = cvF (l.drop 2) (0 + 1 * getI l ((0 : Nat) : Int)) (1 + (0 + 1 * getI l ((0 : Nat) : Int)) * getI l ((1 : Nat) : Int)) := by
      conv => lhs; rw [e0, show (0 + 1 : Nat) = 1 from rfl, e1]
      rfl
    have p2 : cvF l 1 0 = cvF (l.drop 2) (1 + 0 * getI l ((0 : Nat) : Int)) (0 + (1 + 0 * getI l ((0 : Nat) : Int)) * getI l ((1 : Nat) : Int)) := by
      conv => lhs; rw [e0, show (0 + 1 : Nat) = 1 from rfl, e1]
      rfl
    rw [p1, p2, ← hM]
    show runs cvStep (M + 1 + 1) _ = _
    rw [runs]
    simp only [s0]
    show runs cvStep (M + 1) (cvAt .b l 1 1 (0 + 1 * getI l ((0 : Nat) : Int)) 0 (1 + 0 * getI l ((0 : Nat) : Int))) = _
    rw [runs]
    simp only [s1]
    rfl
def okV (l : List Int) (n i b c : Int) (bb bc : Bool) : Bool := decide (n = lenI l) && decide (i = 0) && decide (b = 1) && decide (c = 1) && decide (n ≤ 200) && decide (0 < n) && rg (-1152921504606846976) l && (bb == decide (b < 0)) && (bc == decide (c < 0))
def CV.start (t : CV) : Bool := okV t.l t.n t.i t.b t.c t.bb t.bc && decide (t.a = 0) && decide (t.d = 0) && (t.ba == false) && (t.bd == false) && (match t.ph with | .a => true | _ => false)
def cvD : LpDefR CV Nm where
  ts := [144, 145, 146]
  ps := [20, 21]
  rs := []
  W := [20, 21, 23, 144, 145, 146, 147, 148, 149, 150, 151, 152, 153, 154, 155, 156, 157, 158, 159, 160, 161, 162, 163, 164, 165, 166, 167, 168, 169, 170, 171, 172]
  dec := fun vs tr ks => match vs, tr, ks with
    | [.w (.one (.fv (.row l))), .w (.one (.int .i64 n)), .w (.one (.int .i64 i))], [], [⟨t0, [.yes false, .lit (.slice none 0 0), .bool bb, .fv (.num b)]⟩, ⟨t1, [.bool bc, .fv (.num c), .yes false, .lit (.slice none 0 0)]⟩] => bif Nat.beq t0 88 && Nat.beq t1 88 then some ⟨.a, l, n, i, 0, b, c, 0, false, bb, bc, false⟩ else none
    | _, _, _ => none
  fk := fun t => some (decide (t.n = 1))
  spec := fun t β => match β with
    | true => some (.exit 4, [], [], cvE (cvF t.l 0 1) (cvF t.l 1 0) .b, [(t.start, true)])
    | false => some (.exit 4, [], [], cvE (cvF t.l 0 1) (cvF t.l 1 0) .c, [(t.start, true)])
theorem cv_key {t : CV} (h : t.start = true) :
    ∃ M, runs cvStep M t = some (.exit 4, [], cvE (cvF t.l 0 1) (cvF t.l 1 0) (if t.n = 1 then .b else .c)) := by
  obtain ⟨ph, l, n, i, a, b, c, d, ba, bb, bc, bd⟩ := t
  simp only [CV.start, okV, Bool.and_eq_true, decide_eq_true_eq, beq_iff_eq] at h
  obtain ⟨⟨⟨⟨⟨⟨⟨⟨⟨⟨⟨⟨⟨h1, h2⟩, h3⟩, h4⟩, h5⟩, h6⟩, h7⟩, h8⟩, h9⟩, h10⟩, h11⟩, h12⟩, h13⟩, h14⟩ := h
  replace h8 : bb = decide (b < 0) := h8
  replace h9 : bc = decide (c < 0) := h9
  subst h8 h9
  subst h1 h2 h3 h4 h10 h11 h12 h13
  cases ph with
  | a =>
    obtain ⟨M, hM⟩ := cv_all h7 (by unfold lenI at h5; omega) (by unfold lenI at h6; omega)
    refine ⟨M, ?_⟩
    have e : (if l.length = 1 then Ph.b else Ph.c) = (if lenI l = 1 then Ph.b else Ph.c) := by
      unfold lenI
      by_cases q : l.length = 1
      · rw [if_pos q, if_pos (by omega)]
      · rw [if_neg q, if_neg (by omega)]
    rw [e] at hM
    exact hM
  | b => cases h14
  | c => cases h14
theorem cvD_ok (x : Code) (hx : codeAt (bodyOf Try.f9) [false, true, false, true, true, true, true, true, true, true, true, true, true, true, true] = some (.loop x)) : LpOk Try.prog numI 189 x (cvD.sp nmSafe) := by
  obtain rfl := loopAt_eq hx
  refine lpR_ok (c := ctxOf Try.prog numI eqsF libV) (ctxOf_ok libV_ok eqsF_ok) (by kernel_rfl) (fun _ _ _ h => h) hx lps_nil (S := cvS) (step := cvStep) (fun _ h => h) (by kernel_rfl) (by kernel_rfl) ?_ rfl (fun t e he => ?_) (fun t hb rest => cv_round t hb rest) ?_
  · intro vs tr ks s hv1 hv2 h hv3
    simp only [cvD] at h
    split at h
    · rename_i l n i t0 bb b t1 bc c
      cases hb : Nat.beq t0 88 && Nat.beq t1 88 with
      | false => rw [hb] at h; cases h
      | true =>
        rw [hb] at h
        cases h
        simp only [Bool.and_eq_true] at hb
        obtain ⟨b0, b1⟩ := hb
        obtain rfl := Nat.eq_of_beq_eq_true b0
        obtain rfl := Nat.eq_of_beq_eq_true b1
        exact ⟨rfl, fun e he => .inl he⟩
    · cases h
  · have : ∀ e ∈ cvTm t.l t.n t.i, memN e.1 cvD.W = true := fun e he => by
      simp only [cvTm, List.mem_cons, List.not_mem_nil, or_false] at he
      rcases he with rfl | rfl | rfl <;> rfl
    exact this e he
  · intro s β ex outs rts wb cd h hfk hc
    have hb : decide (s.n = 1) = β := hfk _ rfl
    cases β with
    | true =>
      simp only [cvD] at h
      cases h
      obtain ⟨M, hM⟩ := cv_key (hc _ (List.mem_cons_self))
      rw [if_pos (of_decide_eq_true hb)] at hM
      exact ⟨M, hM⟩
    | false =>
      simp only [cvD] at h
      cases h
      obtain ⟨M, hM⟩ := cv_key (hc _ (List.mem_cons_self))
      rw [if_neg (of_decide_eq_false hb)] at hM
      exact ⟨M, hM⟩
end Go.Proofs.Ytdhodjbomepfbaa

